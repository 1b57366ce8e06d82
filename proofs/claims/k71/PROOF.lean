import PyProof.Rows.All
import Wide.All
import OpenK.AllK
import Wide.FinOn
import Lean
import PyProof.EqAt
import PyProof.EqKinds
import PyProof.TupleCall
import PyProof.ExcBaseAll.ValueError
import PyProof.P3Eq
import PyProof.NeData
import PyProof.DictTable
import KE.KEqDict
import PyProof.EnumFor
import PyProof.EnumMake
import PyProof.EnumStmt
import PyProof.NsDelKeeps
import KE.KListMore
import PySem.Challenge.RW_knockwright_k71_boxes_known
set_option Elab.async false
set_option linter.all false
set_option maxRecDepth 100000
namespace L2
open PySem PySem.Spec PyProof.Rows
abbrev Key := Sum Int Str
def keyIs : Key → Value → Bool
  | .inl k, v => Value.isInt k v
  | .inr x, v => Value.isStrOf x v
def keyH (w : World) : Key → Int
  | .inl k => hashInt k
  | .inr x => hashStr w x
theorem keyIs_shape : ∀ {k : Key} {v : Value}, keyIs k v = true → (∃ i t, k = Sum.inl i ∧ v = Value.int i t) ∨ (∃ x t, k = Sum.inr x ∧ v = Value.str x t)
  | .inl i, v, h => by
    obtain ⟨t, e⟩ := Value.isInt_shape (k := i) (v := v) h
    exact .inl ⟨i, t, rfl, e⟩
  | .inr x, v, h => by
    obtain ⟨t, e⟩ := Value.isStrOf_shape (x := x) (v := v) h
    exact .inr ⟨x, t, rfl, e⟩
theorem keyIs_str (x : Str) (t : Tok) : keyIs (.inr x) (.str x t) = true := by simp [keyIs, Value.isStrOf]
theorem key_ll (a b : Int) : decide ((Sum.inl a : Key) = Sum.inl b) = (a == b) := by
  by_cases e : a = b
  · subst e; simp
  · have h : ¬ (Sum.inl a : Key) = Sum.inl b := fun q => e (Sum.inl.inj q)
    rw [decide_eq_false h]
    exact (beq_eq_false_iff_ne.mpr e).symm
theorem key_rr (a b : Str) : decide ((Sum.inr a : Key) = Sum.inr b) = decide (a = b) := by
  by_cases e : a = b
  · subst e; simp
  · have h : ¬ (Sum.inr a : Key) = Sum.inr b := fun q => e (Sum.inr.inj q)
    rw [decide_eq_false h, decide_eq_false e]
theorem key_lr (a : Int) (b : Str) : decide ((Sum.inl a : Key) = Sum.inr b) = false := decide_eq_false (fun q => nomatch q)
theorem key_rl (a : Str) (b : Int) : decide ((Sum.inr a : Key) = Sum.inl b) = false := decide_eq_false (fun q => nomatch q)
def mixKind (prog : Program) (w : World) : PySem.KeyKind prog w Key where
  is := keyIs
  hash := keyH w
  inj := fun v a b ha hb => by
    rcases keyIs_shape ha with ⟨i, t, rfl, rfl⟩ | ⟨x, t, rfl, rfl⟩
    · rcases keyIs_shape hb with ⟨j, u, rfl, e⟩ | ⟨y, u, rfl, e⟩
      · injection e with e1 _; rw [e1]
      · exact nomatch e
    · rcases keyIs_shape hb with ⟨j, u, rfl, e⟩ | ⟨y, u, rfl, e⟩
      · exact nomatch e
      · injection e with e1 _; rw [e1]
  byValue := fun k v h => by
    rcases keyIs_shape h with ⟨i, t, rfl, rfl⟩ | ⟨x, t, rfl, rfl⟩ <;> rfl
  pyHash := fun hv h => by
    rcases keyIs_shape hv with ⟨i, t, rfl, rfl⟩ | ⟨x, t, rfl, rfl⟩
    · exact wpAny_pyHash_int h
    · exact wpAny_pyHash_str h
  eqBool := fun hu hv h => by
    rcases keyIs_shape hu with ⟨i, t, rfl, rfl⟩ | ⟨x, t, rfl, rfl⟩
    · rcases keyIs_shape hv with ⟨j, u, rfl, rfl⟩ | ⟨y, u, rfl, rfl⟩
      · rw [key_ll] at h; exact wpAny_eqBool_int h
      · rw [key_lr] at h; exact SeqAt.EqAt.int_str i t y u _ _ _ _ h
    · rcases keyIs_shape hv with ⟨j, u, rfl, rfl⟩ | ⟨y, u, rfl, rfl⟩
      · rw [key_rl] at h; exact SeqAt.EqAt.str_int x t j u _ _ _ _ h
      · rw [key_rr] at h; exact wpAny_eqBool_str h
  «strs» := fun k x t v h => by
    rcases keyIs_shape h with ⟨i, u, rfl, e⟩ | ⟨y, u, rfl, e⟩
    · exact nomatch e
    · injection e with e1 _
      subst e1
      cases v <;> rfl
theorem mixKind_str (prog : Program) (w : World) (x : Str) (t : Tok) : (mixKind prog w).is (.inr x) (.str x t) = true := keyIs_str x t
end L2
namespace L2
open PySem PySem.Spec PyProof.Rows
inductive V where
  | non | bl (b : Bool) | int (i : Int) | str (x : Str) | byt (b : Array UInt8) | flt (b : UInt64) | ref (a : Addr) | ty (n : String)
  deriving DecidableEq
def RelV : V → Value → Prop
  | .non, u => u = Value.none
  | .bl b, u => u = Value.bool b
  | .int i, u => ∃ t, u = Value.int i t
  | .str x, u => ∃ t, u = Value.str x t
  | .byt b, u => ∃ t, u = Value.bytes b t
  | .flt b, u => ∃ t, u = Value.float b t
  | .ref a, u => u = Value.ref a
  | .ty n, u => u = Value.type n
abbrev Vals : List V → List Value → Prop := Paired RelV
theorem Vals.length {xs : List V} {us : List Value} (r : Vals xs us) : xs.length = us.length := Paired.length r
theorem Vals.get : ∀ {xs : List V} {us : List Value} {i : Nat} {x : V}, Vals xs us → xs[i]? = some x → ∃ u, us[i]? = some u ∧ RelV x u
  | _, _, _, _, .nil, e => by simp at e
  | _, _, 0, _, .cons r _, e => by simp at e; subst e; exact ⟨_, rfl, r⟩
  | _, _, i + 1, x, .cons _ t, e => by
    obtain ⟨u, h1, h2⟩ := Vals.get (i := i) (x := x) t (by simpa using e)
    exact ⟨u, by simpa using h1, h2⟩
theorem Vals.set {x : V} {u : Value} (r : RelV x u) : ∀ {xs : List V} {us : List Value} (i : Nat), Vals xs us → Vals (xs.set i x) (us.set i u)
  | _, _, _, .nil => .nil
  | _, _, 0, .cons _ t => .cons r t
  | _, _, i + 1, .cons q t => .cons q (Vals.set r i t)
theorem Vals.append : ∀ {xs ys : List V} {us ws : List Value}, Vals xs us → Vals ys ws → Vals (xs ++ ys) (us ++ ws)
  | _, _, _, _, .nil, s => s
  | _, _, _, _, .cons r t, s => .cons r (Vals.append t s)
theorem Vals.take : ∀ {xs : List V} {us : List Value} (n : Nat), Vals xs us → Vals (xs.take n) (us.take n)
  | _, _, 0, _ => .nil
  | _, _, _ + 1, .nil => .nil
  | _, _, n + 1, .cons r t => .cons r (Vals.take n t)
theorem Vals.drop : ∀ {xs : List V} {us : List Value} (n : Nat), Vals xs us → Vals (xs.drop n) (us.drop n)
  | _, _, 0, r => r
  | _, _, _ + 1, .nil => .nil
  | _, _, n + 1, .cons _ t => Vals.drop n t
def RelO : Option V → Option Value → Prop
  | some v, some u => RelV v u
  | none, none => True
  | _, _ => False
def KV {κ : Type} : List (κ × V) → List (κ × Value) → Prop := Paired fun (p : κ × V) (q : κ × Value) => p.1 = q.1 ∧ RelV p.2 q.2
def kV : Key → V
  | .inl i => .int i
  | .inr x => .str x
inductive HO where
  | lst (xs : List V)
  | tup (xs : List V)
  | dK (kvs : List (Key × V)) | dT (kvs : List (List Key × V))
  | set (S : Int → Bool) (n : Nat)
  | ins (C dx : Addr) (fs : List (Str × V))
  | own (x : Addr)
  | xd (fs : List (Str × V))
  | met (f x : Addr)
  | rng (lo hi : Int)
  | frz (o : Obj) (u : HO)
  | tbl (ps : Array Value)
  | ext (φ : Heap → Prop)
abbrev Hp := Addr → Option HO
def upd (H : Hp) (a : Addr) (o : HO) : Hp := fun b => if b = a then some o else H b
theorem upd_same {H : Hp} {a : Addr} {o : HO} : upd H a o a = some o := by unfold upd; rw [if_pos rfl]
theorem upd_ne {H : Hp} {a b : Addr} {o : HO} (h : b ≠ a) : upd H a o b = H b := by unfold upd; rw [if_neg h]
theorem ne_of {H : Hp} {a b : Addr} {o u : HO} (h : H a = some o) (h' : H b = some u) (d : o ≠ u) : a ≠ b := by
  intro e; subst e; rw [h] at h'; exact d (Option.some.inj h')
theorem ne_of_none {H : Hp} {a b : Addr} {o : HO} (h : H a = some o) (h' : H b = none) : a ≠ b := by
  intro e; subst e; rw [h] at h'; cases h'
section
variable (P : Program) (w : World)
def ObjOk (H : Hp) (h : Heap) (a : Addr) : HO → Prop
  | .lst xs => xs.length ≤ sizeLine ∧ ∃ (its : List Value) (n : Nat), Vals xs its ∧ h.get? a = some { cls := .type "list", data := .seq its.toArray n }
  | .tup xs => xs.length ≤ sizeLine ∧ ∃ its : List Value, Vals xs its ∧ IsTup h a its.toArray
  | .dK kvs => kvs.length ≤ sizeLine ∧ (a == sysModules) = false ∧ ∃ vs, KV kvs vs ∧ h.DictOf (mixKind P w) a vs
  | .dT kvs => kvs.length ≤ sizeLine ∧ (a == sysModules) = false ∧ ∃ xs : List (List Key × Addr × Value),
      Paired (fun (p : List Key × V) (q : List Key × Addr × Value) => p.1 = q.1 ∧ H q.2.1 = some (.tup (p.1.map kV)) ∧ RelV p.2 q.2.2) kvs xs ∧
      ∃ o es ep, h.get? a = some o ∧ o.ExactDict ∧ o.data = .dict es ep ∧ es.toList = xs.map (entryOfKey (tupleKind (mixKind P w))) ∧ (xs.map (·.1)).Nodup
  | .set S n => h.SetOf (intKind P w) a S n
  | .ins C dx fs => H dx = some (.own a) ∧ fs.length ≤ 1000 ∧ dx ≠ a ∧ h.get? a = some (PySem.W.instObj C dx) ∧
      ∃ mA, h.Ns1 dx mA ∧ (∀ f, RelO (fs.lookup f) (mA f)) ∧ PySem.Within mA (fs.map (·.1))
  | .own _ => ∃ o, h.get? a = some o
  | .xd fs => ∃ mA, h.Ns1 a mA ∧ ∀ f, RelO (fs.lookup f) (mA f)
  | .rng lo hi => ∃ t u v, h.get? a = some { cls := .type "range", data := .fields #[.int lo t, .int hi u, .int 1 v] }
  | .frz o u => h.get? a = some o ∧ ObjOk H h a u
  | .tbl ps => h.get? a = some { cls := .none, data := .fields ps }
  | .met f x => h.get? a = some (PySem.W.methodObj (.ref f) (.ref x))
  | .ext φ => φ h ∧ (∃ o, h.get? a = some o) ∧ ∀ h1 h2 : Heap, φ h1 → (∀ o, h1.get? a = some o → h2.get? a = some o) → φ h2
def HOk (H : Hp) (h : Heap) : Prop := ∀ a o, H a = some o → ObjOk P w H h a o
end
section
variable {P : Program} {w : World} {H H' : Hp} {h h' : Heap} {a : Addr} {o : HO}
theorem ObjOk.lt (x : ObjOk P w H h a o) : a < h.objs.size := by
  cases o with
  | lst xs => obtain ⟨_, _, _, _, e⟩ := x; exact Heap.lt_size e
  | tup xs => obtain ⟨_, _, _, p⟩ := x; exact p.lt
  | dK kvs => obtain ⟨_, _, _, _, o, _, _, e, _⟩ := x; exact Heap.lt_size e
  | dT kvs => obtain ⟨_, _, _, _, o, _, _, e, _⟩ := x; exact Heap.lt_size e
  | set S n => obtain ⟨o, _, _, _, e, _⟩ := x; exact Heap.lt_size e
  | ins C dx fs => obtain ⟨_, _, _, e, _⟩ := x; exact Heap.lt_size e
  | own y => obtain ⟨_, e⟩ := x; exact Heap.lt_size e
  | xd fs => obtain ⟨_, ⟨_, _, _, e, _⟩, _⟩ := x; exact Heap.lt_size e
  | rng lo hi => obtain ⟨_, _, _, e⟩ := x; exact Heap.lt_size e
  | frz ob u => obtain ⟨e, _⟩ := x; exact Heap.lt_size e
  | tbl ps => exact Heap.lt_size (show h.get? a = some _ from x)
  | met f y => exact Heap.lt_size (show h.get? a = some _ from x)
  | ext φ => obtain ⟨_, ⟨_, e⟩, _⟩ := x; exact Heap.lt_size e
theorem Paired.mapP {α β : Type} {F G : α → β → Prop} : ∀ {l₁ : List α} {l₂ : List β}, Paired F l₁ l₂ → (∀ a b, F a b → G a b) → Paired G l₁ l₂
  | _, _, .nil, _ => .nil
  | _, _, .cons r t, f => .cons (f _ _ r) (Paired.mapP t f)
theorem ObjOk.stay (x : ObjOk P w H h a o) (k : ∀ b u, (b = a ∨ H b = some (.own a)) → h.get? b = some u → h'.get? b = some u)
    (ho : ∀ b, H b = some (.own a) → H' b = some (.own a)) (ht : ∀ b xs, H b = some (.tup xs) → H' b = some (.tup xs)) : ObjOk P w H' h' a o := by
  induction o with
  | lst xs => obtain ⟨z, its, n, r, e⟩ := x; exact ⟨z, its, n, r, k _ _ (.inl rfl) e⟩
  | tup xs => obtain ⟨z, its, r, ob, e, c⟩ := x; exact ⟨z, its, r, ob, k _ _ (.inl rfl) e, c⟩
  | dK kvs => obtain ⟨z, y, vs, r, ob, es, ep, e, c⟩ := x; exact ⟨z, y, vs, r, ob, es, ep, k _ _ (.inl rfl) e, c⟩
  | dT kvs =>
    obtain ⟨z, y, xs, r, ob, es, ep, e, c⟩ := x
    exact ⟨z, y, xs, Paired.mapP r fun p q z => ⟨z.1, ht _ _ z.2.1, z.2.2⟩, ob, es, ep, k _ _ (.inl rfl) e, c⟩
  | set S n => obtain ⟨ob, es, ep, t, e, c⟩ := x; exact ⟨ob, es, ep, t, k _ _ (.inl rfl) e, c⟩
  | ins C dx fs =>
    obtain ⟨d, z, ne, e, mA, ⟨od, es, ep, e2, c⟩, r⟩ := x
    exact ⟨ho _ d, z, ne, k _ _ (.inl rfl) e, mA, ⟨od, es, ep, k _ _ (.inr d) e2, c⟩, r⟩
  | own y => obtain ⟨ob, e⟩ := x; exact ⟨ob, k _ _ (.inl rfl) e⟩
  | xd fs => obtain ⟨mA, ⟨od, es, ep, e, c⟩, r⟩ := x; exact ⟨mA, ⟨od, es, ep, k _ _ (.inl rfl) e, c⟩, r⟩
  | rng lo hi => obtain ⟨t, u, v, e⟩ := x; exact ⟨t, u, v, k _ _ (.inl rfl) e⟩
  | frz ob u ih => obtain ⟨e, q⟩ := x; exact ⟨k _ _ (.inl rfl) e, ih q⟩
  | tbl ps =>
    have e : h.get? a = some { cls := .none, data := .fields ps } := x
    show h'.get? a = some { cls := .none, data := .fields ps }
    exact k a _ (.inl rfl) e
  | met f y =>
    have e : h.get? a = some (PySem.W.methodObj (.ref f) (.ref y)) := x
    show h'.get? a = some (PySem.W.methodObj (.ref f) (.ref y))
    exact k a _ (.inl rfl) e
  | ext φ => obtain ⟨p, ⟨o, e⟩, st⟩ := x; exact ⟨st _ _ p fun o q => k _ _ (.inl rfl) q, ⟨o, k _ _ (.inl rfl) e⟩, st⟩
theorem HOk.lt (x : HOk P w H h) (e : H a = some o) : a < h.objs.size := (x a o e).lt
theorem HOk.fresh (x : HOk P w H h) (e : h.objs.size ≤ a) : H a = none := by
  cases q : H a with
  | none => rfl
  | some u => exact absurd (Nat.lt_of_lt_of_le (x.lt q) e) (Nat.lt_irrefl _)
theorem HOk.kept (x : HOk P w H h) (k : ∀ b u, h.get? b = some u → h'.get? b = some u) : HOk P w H h' := fun a o e =>
  (x a o e).stay (fun b u _ q => k b u q) (fun _ q => q) fun _ _ q => q
theorem HOk.laid (x : HOk P w H h) (k : ∀ b u, h.get? b = some u → h'.get? b = some u) (hp : h.objs.size ≤ a) (new : ObjOk P w (upd H a o) h' a o) : HOk P w (upd H a o) h' := fun b u e => by
  have hn := x.fresh hp
  by_cases hb : b = a
  · subst hb; rw [upd_same] at e; cases e; exact new
  · rw [upd_ne hb] at e
    exact (x b u e).stay (fun c v _ q => k c v q) (fun c q => by rw [upd_ne (ne_of_none q hn)]; exact q) fun c xs q => by rw [upd_ne (ne_of_none q hn)]; exact q
end
def Rd (H : Hp) (a : Addr) (u : HO) : Prop := H a = some u ∨ ∃ o, H a = some (.frz o u)
theorem Rd.ok {P : Program} {w : World} {H : Hp} {h : Heap} {a : Addr} {u : HO} (r : Rd H a u) (x : HOk P w H h) : ObjOk P w H h a u := by
  rcases r with r | ⟨o, r⟩
  · exact x a u r
  · obtain ⟨_, q⟩ := x a _ r
    exact q
def Mut : Option HO → Prop
  | some (.lst _) => True
  | some (.dK _) => True
  | some (.dT _) => True
  | some (.set _ _) => True
  | some (.ins _ _ _) => True
  | some (.ext _) => True
  | _ => False
section
variable {P : Program} {w : World} {H : Hp} {h h' : Heap} {x e : Addr} {o' : HO}
theorem HOk.write (ok : HOk P w H h) (mu : Mut (H x)) (he : e = x ∨ H e = some (.own x)) (k : ∀ b u, b ≠ e → h.get? b = some u → h'.get? b = some u) (heo : ∃ u, h'.get? e = some u)
    (new : ObjOk P w (upd H x o') h' x o') : HOk P w (upd H x o') h' := fun b u q => by
  have nown : ∀ c y, H c = some (.own y) → c ≠ x := fun c y r z => by subst z; rw [r] at mu; exact mu
  have ntup : ∀ c xs, H c = some (.tup xs) → c ≠ x := fun c xs r z => by subst z; rw [r] at mu; exact mu
  by_cases hb : b = x
  · subst hb; rw [upd_same] at q; cases q; exact new
  · rw [upd_ne hb] at q
    by_cases hbe : b = e
    · have q' : H b = some (.own x) := by
        rcases he with z | z
        · exact absurd (hbe.trans z) hb
        · rw [hbe]; exact z
      rw [q] at q'; cases q'
      obtain ⟨v, hv⟩ := heo
      exact ⟨v, by rw [hbe]; exact hv⟩
    · refine (ok b u q).stay (fun c v hc r => k c v ?_ r) (fun c r => by rw [upd_ne (nown c b r)]; exact r) fun c xs r => by rw [upd_ne (ntup c xs r)]; exact r
      rcases hc with rfl | hc
      · exact hbe
      · rintro rfl
        rcases he with z | z
        · exact nown c b hc z
        · rw [hc] at z; cases z; exact hb rfl
end
structure Un (fs ex : List Addr) (H H' : Hp) (h h' : Heap) : Prop where
  keep : ∀ b o, h.get? b = some o → H b = none → b ∉ fs → b ∉ ex → h'.get? b = some o
  slot : ∀ b o, h.get? b = some o → H b = none → b ∈ fs → b ∉ ex → ∃ sl, h'.get? b = some { o with slots := sl }
  free : ∀ b o, h.get? b = some o → H b = none → b ∉ ex → H' b = none
  there : ∀ b o, h.get? b = some o → b ∉ ex → ∃ o', h'.get? b = some o'
  tups : ∀ b xs, H b = some (.tup xs) → H' b = some (.tup xs)
  frzs : ∀ b o u, H b = some (.frz o u) → H' b = some (.frz o u)
  tbls : ∀ b ps, H b = some (.tbl ps) → ∃ more, H' b = some (.tbl (ps ++ more))
section
variable {fs fs' ex ex' : List Addr} {H H1 H2 : Hp} {h h1 h2 h' : Heap} {a x e : Addr} {o : HO}
theorem Un.any (u : Un fs ex H H1 h h1) {b : Addr} {ob : Obj} (q : h.get? b = some ob) (n : H b = none) (hx : b ∉ ex) : ∃ sl, h1.get? b = some { ob with slots := sl } := by
  by_cases hb : b ∈ fs
  · exact u.slot b ob q n hb hx
  · exact ⟨ob.slots, u.keep b ob q n hb hx⟩
theorem Un.kept (k : ∀ b u, h.get? b = some u → h'.get? b = some u) : Un fs ex H H h h' :=
  ⟨fun b ob q _ _ _ => k b ob q, fun b ob q _ _ _ => ⟨ob.slots, k b ob q⟩, fun _ _ _ n _ => n, fun b ob q _ => ⟨ob, k b ob q⟩, fun _ _ q => q, fun _ _ _ q => q, fun _ ps q => ⟨#[], by rw [q]; simp⟩⟩
theorem Un.refl : Un fs ex H H h h := Un.kept fun _ _ q => q
theorem Un.laid (k : ∀ b u, h.get? b = some u → h'.get? b = some u) (hp : h.objs.size ≤ a) (hn : H a = none) : Un fs ex H (upd H a o) h h' where
  keep := fun b u q _ _ _ => k b u q
  slot := fun b u q _ _ _ => ⟨u.slots, k b u q⟩
  free := fun b u q n _ => by rw [upd_ne (Nat.ne_of_lt (Nat.lt_of_lt_of_le (Heap.lt_size q) hp))]; exact n
  there := fun b u q _ => ⟨u, k b u q⟩
  tups := fun b xs q => by rw [upd_ne (ne_of_none q hn)]; exact q
  frzs := fun b u xs q => by rw [upd_ne (ne_of_none q hn)]; exact q
  tbls := fun b ps q => ⟨#[], by rw [upd_ne (ne_of_none q hn), q]; simp⟩
theorem Un.write (mu : Mut (H x)) (he : e = x ∨ H e = some (.own x)) (k : ∀ b u, b ≠ e → h.get? b = some u → h'.get? b = some u) (heo : ∃ u, h'.get? e = some u) : Un fs ex H (upd H x o) h h' := by
  have hx : ∀ b, H b = none → b ≠ x := fun b n z => by subst z; rw [n] at mu; exact mu
  have hb : ∀ b, H b = none → b ≠ e := fun b n z => by
    subst z
    rcases he with r | r
    · exact hx b n r
    · rw [n] at r; cases r
  have hm : ∀ b u, H b = some u → ¬ Mut (some u) → b ≠ x := fun b u q nm z => by subst z; rw [q] at mu; exact nm mu
  refine ⟨fun b u q n _ _ => k b u (hb b n) q, fun b u q n _ _ => ⟨u.slots, k b u (hb b n) q⟩, fun b u q n _ => by rw [upd_ne (hx b n)]; exact n, fun b u q _ => ?_,
    fun b xs q => by rw [upd_ne (hm b _ q fun z => z)]; exact q, fun b u xs q => by rw [upd_ne (hm b _ q fun z => z)]; exact q, fun b ps q => ⟨#[], by rw [upd_ne (hm b _ q fun z => z), q]; simp⟩⟩
  by_cases hbe : b = e
  · subst hbe; exact heo
  · exact ⟨u, k b u hbe q⟩
end
def trk (h : Heap) (H : Hp) : List Addr := (List.range h.objs.size).filter fun a => (H a).isSome
def hidT (h : Heap) (H : Hp) : Heap := PySem.W.hideAll h (trk h H)
theorem hidT_size (h : Heap) (H : Hp) : (hidT h H).objs.size = h.objs.size := PySem.W.hideAll_size _ _
theorem hidT_get {h : Heap} {H : Hp} {b : Addr} {o : Obj} (e : h.get? b = some o) (n : H b = none) : (hidT h H).get? b = some o :=
  PySem.W.hideAll_get _ e fun hm => by
    have q : (H b).isSome = true := (List.mem_filter.mp hm).2
    rw [n] at q; simp at q
theorem of_hidT {h : Heap} {H : Hp} {b : Addr} {o : Obj} (e : (hidT h H).get? b = some o) : h.get? b = some o ∧ H b = none := by
  have e' : h.get? b = some o := PySem.W.of_hideAll (trk h H) e
  refine ⟨e', ?_⟩
  cases q : H b with
  | none => rfl
  | some x =>
    have hm : b ∈ trk h H := List.mem_filter.mpr ⟨List.mem_range.mpr (Heap.lt_size e'), by simp [q]⟩
    have z : (hidT h H).get? b = none := PySem.W.hideAll_none (trk h H) hm
    rw [z] at e; cases e
end L2
namespace L2
open PySem PySem.Spec PyProof.Rows
structure Mod (K : PySem.W.Frag) (mg : Str → Option Value) (base : Heap) : Prop where
  kin : K.In base
  glob : base.Ns mainGlobals mg
  blt : ∃ mb, base.Ns builtinsNs mb ∧ ∀ x : Str, x ≠ "__name__" → mb x = bootBuiltins x
  nolimit : base.NoLimit
structure Cx where
  prog : Program
  w : World
  K : PySem.W.Frag
  mg : Str → Option Value
  base : Heap
  A : Around
  N : List Str
  s₀ : Shared
  H₀ : Hp
  env : Env
  outer : List Env
  stack : List Env
  ex : List Addr
  fn : Str → Bool
  calm : Bool
  pn : List (Addr × Obj)
  xe : Value → Shared → Prop
def frs (l : List Env) : List Addr := l.filterMap (·.frame)
abbrev Cx.fs (X : Cx) : List Addr := frs X.outer
def Vis (sc : Scope) (x : Str) : Prop := sc.names.lookup x = some .local ∨ sc.names.lookup x = some .cell ∨ sc.names.lookup x = some .free
def Loc (sc : Scope) (x : Str) : Prop := sc.names.lookup x = some .local ∨ sc.names.lookup x = some .cell
def Look (env : Env) (h : Heap) (m : Str → Option Value) (x : Str) (u : Value) : Prop :=
  (env.kindOf x = some .local ∧ m x = some u) ∨ ((env.kindOf x = some .cell ∨ env.kindOf x = some .free) ∧ ∃ c, env.cells.lookup x = some c ∧ h.IsCell c (some u))
structure Cx.Ok (X : Cx) : Prop where
  mod : Mod X.K X.mg X.base
  kind : X.env.scope.kind = .function
  glob : X.env.globals = mainGlobals
  blt : X.env.builtins = builtinsNs
  above : X.s₀.heap.objs.size ≤ X.env.locals
  inj : ∀ x y c, X.env.cells.lookup x = some c → X.env.cells.lookup y = some c → x = y
  has : ∀ x, (X.env.kindOf x = some .cell ∨ X.env.kindOf x = some .free) → ∃ c, X.env.cells.lookup x = some c
  cab : ∀ x c, X.fn x = true → X.env.cells.lookup x = some c → X.s₀.heap.objs.size ≤ c
  hd : X.calm = true → X.A.handled = none
  frames : X.A.frames = some X.stack
  stk : X.stack = X.outer ∨ (X.stack = X.env :: X.outer ∧ X.env.frame = some X.env.locals)
  exf : ∀ b ∈ X.ex, b ≠ X.env.locals ∧ ∀ x c, X.env.cells.lookup x = some c → c ≠ b
  bs : ∀ b o, X.base.get? b = some o → X.s₀.heap.get? b = some o ∧ X.H₀ b = none
  bsz : X.base.objs.size ≤ X.s₀.heap.objs.size
  noex : ∀ b o, X.base.get? b = some o → b ∉ X.ex
  exfs : ∀ b ∈ X.ex, b ∉ X.fs
  funs : X.s₀.heap.FunFrames X.base X.outer
  frf : ∀ b ∈ X.fs, X.H₀ b = none
structure Inv (X : Cx) (pins : List (Addr × Obj)) (σ : List (Option V)) (H : Hp) (s : Shared) : Prop where
  ok : X.Ok
  os : s.os = X.s₀.os
  bare : AllBare s.gens
  base : Un X.fs X.ex X.H₀ H X.s₀.heap s.heap
  loc : ∃ m, s.heap.Ns X.env.locals m ∧ ∀ (i : Nat) (x : Str) (v : V), X.N[i]? = some x → σ[i]? = some (some v) → Vis X.env.scope x → ∃ u, RelV v u ∧ Look X.env s.heap m x u
  cell : ∀ x c, X.env.cells.lookup x = some c → ∃ v, s.heap.IsCell c v
  free : H X.env.locals = none
  freeC : ∀ x c, X.env.cells.lookup x = some c → H c = none
  pin : ∀ p ∈ X.pn ++ pins, s.heap.get? p.1 = some p.2 ∧ H p.1 = none ∧ p.1 ≠ X.env.locals ∧ p.1 ∉ X.fs ∧ ∀ v, p.2.data ≠ .cell v
  hok : HOk X.prog X.w H s.heap
  len : σ.length = X.N.length
section
variable {X : Cx} {pins : List (Addr × Obj)} {σ : List (Option V)} {H H' : Hp} {s : Shared} {h' : Heap}
theorem Cx.Ok.nofr (ok : X.Ok) {b : Addr} {o : Obj} (e : X.base.get? b = some o) : b ∉ X.fs := fun hb => by
  have := (ok.funs.mem hb).1
  rw [e] at this; cases this
theorem Inv.bs (I : Inv X pins σ H s) : ∀ b o, X.base.get? b = some o → s.heap.get? b = some o ∧ H b = none := fun b o e =>
  ⟨I.base.keep b o (I.ok.bs b o e).1 (I.ok.bs b o e).2 (I.ok.nofr e) (I.ok.noex b o e), I.base.free b o (I.ok.bs b o e).1 (I.ok.bs b o e).2 (I.ok.noex b o e)⟩
theorem Inv.bk (I : Inv X pins σ H s) : ∀ b o, X.base.get? b = some o → s.heap.get? b = some o := fun b o e => (I.bs b o e).1
theorem Inv.mod (I : Inv X pins σ H s) : Mod X.K X.mg X.base := I.ok.mod
theorem Inv.kIn (I : Inv X pins σ H s) : X.K.In s.heap := I.ok.mod.kin.keeps I.bk
theorem Inv.lt (I : Inv X pins σ H s) : X.env.locals < s.heap.objs.size := let ⟨_, hn, _⟩ := I.loc; hn.lt
theorem Inv.sz (I : Inv X pins σ H s) : X.s₀.heap.objs.size ≤ s.heap.objs.size := Nat.le_trans I.ok.above (Nat.le_of_lt I.lt)
theorem Inv.nofs (I : Inv X pins σ H s) {a : Addr} (h : s.heap.objs.size ≤ a) : a ∉ X.fs := fun hb => by
  obtain ⟨_, o, ho, _⟩ := I.ok.funs.mem hb
  exact absurd (Nat.lt_of_lt_of_le (Heap.lt_size ho) (Nat.le_trans I.sz h)) (Nat.lt_irrefl _)
theorem Inv.cne (I : Inv X pins σ H s) : ∀ x c, X.env.cells.lookup x = some c → c ≠ X.env.locals := fun x c e z => by
  obtain ⟨v, o, ho, hd⟩ := I.cell x c e
  obtain ⟨m, ⟨o', es, ep, ho', hd', _⟩, _⟩ := I.loc
  rw [z, ho'] at ho; cases ho; rw [hd'] at hd; cases hd
theorem Inv.funs (I : Inv X pins σ H s) : s.heap.FunFrames X.base X.outer := by
  have all : ∀ (l : List Env), (∀ b ∈ frs l, b ∈ X.fs) → X.s₀.heap.FunFrames X.base l → s.heap.FunFrames X.base l := by
    intro l
    induction l with
    | nil => intro _ _; trivial
    | cons env r ih =>
      intro hs hl
      obtain ⟨hk, ⟨L, o, hf, hn, ho, hd⟩, hr⟩ := hl
      have hL : L ∈ X.fs := hs L (by unfold frs; rw [List.filterMap_cons, hf]; exact List.mem_cons_self)
      obtain ⟨sl, e⟩ := I.base.slot L o ho (I.ok.frf L hL) hL fun z => I.ok.exfs L z hL
      exact ⟨hk, ⟨L, _, hf, hn, e, hd⟩, ih (fun b hb => hs b (by unfold frs; rw [List.filterMap_cons, hf]; exact List.mem_cons_of_mem _ hb)) hr⟩
  exact all X.outer (fun _ hb => hb) I.ok.funs
theorem Inv.stack (I : Inv X pins σ H s) : s.heap.FunFrames X.base X.stack := by
  rcases I.ok.stk with e | ⟨e, hf⟩
  · rw [e]; exact I.funs
  · rw [e]
    obtain ⟨m, hn, _⟩ := I.loc
    refine .cons (by rw [I.ok.kind]; decide) hf hn ?_ I.funs
    exact Heap.get?_none_of_le (Nat.le_trans I.ok.bsz I.ok.above)
theorem Inv.stkSub (I : Inv X pins σ H s) : ∀ b ∈ frs X.stack, b ∈ X.env.locals :: X.fs := fun b hb => by
  rcases I.ok.stk with e | ⟨e, hf⟩
  · rw [e] at hb; exact List.mem_cons_of_mem _ hb
  · rw [e] at hb
    unfold frs at hb
    rw [List.filterMap_cons, hf] at hb
    exact hb
theorem Inv.stkFree (I : Inv X pins σ H s) : ∀ b ∈ frs X.stack, H b = none := fun b hb => by
  rcases List.mem_cons.mp (I.stkSub b hb) with e | hb
  · rw [e]; exact I.free
  · obtain ⟨_, o, ho, _⟩ := I.ok.funs.mem hb
    exact I.base.free b o ho (I.ok.frf b hb) fun z => I.ok.exfs b z hb
theorem Inv.step {g' : Array GenState} {t' : Nat} {d' : Drawn} {ch : List Addr} (I : Inv X pins σ H s)
    (hch : ∀ b ∈ ch, (b ∈ X.ex ∨ X.s₀.heap.objs.size ≤ b) ∧ b ≠ X.env.locals ∧ (∀ x c, X.env.cells.lookup x = some c → c ≠ b) ∧ ∀ p ∈ X.pn ++ pins, p.1 ≠ b)
    (keep : ∀ b o, b ≠ X.env.locals → b ∉ X.fs → b ∉ ch → s.heap.get? b = some o → H b = none → h'.get? b = some o)
    (slot : ∀ b o, b ≠ X.env.locals → b ∈ X.fs → b ∉ ch → s.heap.get? b = some o → H b = none → ∃ sl, h'.get? b = some { o with slots := sl }) (free : ∀ b o, b ∉ ch → s.heap.get? b = some o → H b = none → H' b = none)
    (there : ∀ b o, b ∉ ch → s.heap.get? b = some o → ∃ o', h'.get? b = some o')
    (tups : ∀ b xs, H b = some (.tup xs) → H' b = some (.tup xs)) (frzs : ∀ b o u, H b = some (.frz o u) → H' b = some (.frz o u)) (tbls : ∀ b ps, H b = some (.tbl ps) → ∃ more, H' b = some (.tbl (ps ++ more)))
    (ns : ∀ m, s.heap.Ns X.env.locals m → h'.Ns X.env.locals m) (hok : HOk X.prog X.w H' h') (hg : AllBare g') :
    Inv X pins σ H' { s with heap := h', gens := g', drawn := d', toks := t' } := by
  have neL : ∀ b o, X.s₀.heap.get? b = some o → b ≠ X.env.locals := fun b o e => Nat.ne_of_lt (Nat.lt_of_lt_of_le (Heap.lt_size e) I.ok.above)
  have neC : ∀ b o, X.s₀.heap.get? b = some o → b ∉ X.ex → b ∉ ch := fun b o e hx hb => by
    rcases (hch b hb).1 with z | z
    · exact hx z
    · exact absurd (Nat.lt_of_lt_of_le (Heap.lt_size e) z) (Nat.lt_irrefl _)
  have cellK : ∀ x c, X.env.cells.lookup x = some c → ∀ v, s.heap.IsCell c v → h'.IsCell c v := fun x c e v ⟨o, ho, hd⟩ => by
    have nch : c ∉ ch := fun z => (hch c z).2.2.1 x c e rfl
    by_cases hc : c ∈ X.fs
    · obtain ⟨sl, q⟩ := slot c o (I.cne x c e) hc nch ho (I.freeC x c e)
      exact ⟨_, q, hd⟩
    · exact ⟨o, keep c o (I.cne x c e) hc nch ho (I.freeC x c e), hd⟩
  refine ⟨I.ok, I.os, hg, ⟨fun b o e n hb hx => ?_, fun b o e n hb hx => ?_, fun b o e n hx => ?_, fun b o e hx => ?_, fun b xs e => tups b xs (I.base.tups b xs e), fun b o xs e => frzs b o xs (I.base.frzs b o xs e), fun b ps e => ?_⟩, ?_, fun x c e => ?_, ?_, fun x c e => ?_, fun p hp => ?_, hok, I.len⟩
  · exact keep b o (neL b o e) hb (neC b o e hx) (I.base.keep b o e n hb hx) (I.base.free b o e n hx)
  · obtain ⟨sl, e1⟩ := I.base.slot b o e n hb hx
    obtain ⟨sl', e2⟩ := slot b _ (neL b o e) hb (neC b o e hx) e1 (I.base.free b o e n hx)
    exact ⟨sl', e2⟩
  · obtain ⟨o', e1⟩ := I.base.there b o e hx
    exact free b o' (neC b o e hx) e1 (I.base.free b o e n hx)
  · obtain ⟨o', e1⟩ := I.base.there b o e hx
    exact there b o' (neC b o e hx) e1
  · obtain ⟨m1, e1⟩ := I.base.tbls b ps e
    obtain ⟨m2, e2⟩ := tbls b _ e1
    exact ⟨m1 ++ m2, by rw [e2, Array.append_assoc]⟩
  · obtain ⟨m, hn, hl⟩ := I.loc
    refine ⟨m, ns m hn, fun i x v e1 e2 e3 => ?_⟩
    obtain ⟨u, r, l⟩ := hl i x v e1 e2 e3
    refine ⟨u, r, ?_⟩
    rcases l with l | ⟨k, c, e, z⟩
    · exact .inl l
    · exact .inr ⟨k, c, e, cellK x c e _ z⟩
  · obtain ⟨v, z⟩ := I.cell x c e
    exact ⟨v, cellK x c e v z⟩
  · obtain ⟨m, ⟨o, _, _, ho, _⟩, _⟩ := I.loc
    exact free _ o (fun z => (hch _ z).2.1 rfl) ho I.free
  · obtain ⟨v, o, ho, hd⟩ := I.cell x c e
    exact free c o (fun z => (hch c z).2.2.1 x c e rfl) ho (I.freeC x c e)
  · obtain ⟨e, n, ne, nf, d⟩ := I.pin p hp
    have nch : p.1 ∉ ch := fun z => (hch p.1 z).2.2.2 p hp rfl
    exact ⟨keep p.1 p.2 ne nf nch e n, free p.1 p.2 nch e n, ne, nf, d⟩
theorem Inv.un {t' : Nat} (I : Inv X pins σ H s) (u : Un X.fs [] H H' s.heap h') (hok : HOk X.prog X.w H' h') : Inv X pins σ H' { s with heap := h', toks := t' } := by
  obtain ⟨m, ⟨o, es, ep, ho, r⟩, _⟩ := id I.loc
  obtain ⟨sl, hL⟩ := u.any ho I.free (by simp)
  exact I.step (g' := s.gens) (d' := s.drawn) (ch := []) (fun _ z => nomatch z) (fun b o _ hb _ e n => u.keep b o e n hb (by simp)) (fun b o _ hb _ e n => u.slot b o e n hb (by simp)) (fun b o _ e n => u.free b o e n (by simp)) (fun b o _ e => u.there b o e (by simp)) u.tups u.frzs u.tbls (fun m' hm => by
    obtain ⟨o', es', ep', ho', r'⟩ := hm
    rw [ho] at ho'; cases ho'
    exact ⟨_, es', ep', hL, r'⟩) hok I.bare
theorem Inv.call {g' : Array GenState} {t' : Nat} {d' : Drawn} {ch : List Addr} (I : Inv X pins σ H s) (u : Un (frs X.stack) ch H H' s.heap h') (hok : HOk X.prog X.w H' h') (hg : AllBare g')
    (hch : ∀ b ∈ ch, (b ∈ X.ex ∨ X.s₀.heap.objs.size ≤ b) ∧ b ≠ X.env.locals ∧ (∀ x c, X.env.cells.lookup x = some c → c ≠ b) ∧ ∀ p ∈ X.pn ++ pins, p.1 ≠ b) :
    Inv X pins σ H' { s with heap := h', gens := g', drawn := d', toks := t' } := by
  obtain ⟨m, ⟨o, es, ep, ho, r⟩, _⟩ := id I.loc
  obtain ⟨sl, hL⟩ := u.any ho I.free fun z => (hch _ z).2.1 rfl
  exact I.step (ch := ch) hch (fun b o hL hb hc e n => u.keep b o e n (fun z => (List.mem_cons.mp (I.stkSub b z)).elim hL hb) hc) (fun b o _ _ hc e n => u.any e n hc) (fun b o hc e n => u.free b o e n hc) (fun b o hc e => u.there b o e hc) u.tups u.frzs u.tbls (fun m' hm => by
    obtain ⟨o', es', ep', ho', r'⟩ := hm
    rw [ho] at ho'; cases ho'
    exact ⟨_, es', ep', hL, r'⟩) hok hg
theorem Inv.turned {t' : Nat} {it : Addr} (I : Inv X pins σ H s) (k : ∀ b o, b ≠ it → s.heap.get? b = some o → h'.get? b = some o) (hn : H it = none) (hL : it ≠ X.env.locals)
    (h1 : it ∈ X.ex ∨ X.s₀.heap.objs.size ≤ it) (h2 : ∀ x c, X.env.cells.lookup x = some c → c ≠ it) (h3 : ∀ p ∈ X.pn ++ pins, p.1 ≠ it) : Inv X pins σ H { s with heap := h', toks := t' } := by
  have nit : ∀ b u, H b = some u → b ≠ it := fun b u e z => by rw [z, hn] at e; cases e
  refine I.step (g' := s.gens) (d' := s.drawn) (ch := [it]) (fun b hb => ?_) (fun b o _ _ hc e _ => k b o (fun z => hc (by simp [z])) e) (fun b o _ _ hc e _ => ⟨o.slots, k b o (fun z => hc (by simp [z])) e⟩) (fun _ _ _ _ n => n)
    (fun b o hc e => ⟨o, k b o (fun z => hc (by simp [z])) e⟩) (fun _ _ e => e) (fun _ _ _ e => e) (fun b ps e => ⟨#[], by rw [e]; simp⟩) (fun m hm => ?_) (fun b u e => ?_) I.bare
  · have e : b = it := by simpa using hb
    subst e
    exact ⟨h1, hL, h2, h3⟩
  · obtain ⟨o, es, ep, ho, r⟩ := hm
    exact ⟨o, es, ep, k _ o (Ne.symm hL) ho, r⟩
  · refine (I.hok b u e).stay (fun c v hc q => k c v ?_ q) (fun _ q => q) fun _ _ q => q
    rcases hc with z | z
    · rw [z]; exact nit b u e
    · exact nit c _ z
theorem Inv.tok (I : Inv X pins σ H s) (t : Nat) : Inv X pins σ H { s with toks := t } := I.un (h' := s.heap) (t' := t) Un.refl I.hok
theorem Inv.kept {t' : Nat} (I : Inv X pins σ H s) (k : ∀ b u, s.heap.get? b = some u → h'.get? b = some u) : Inv X pins σ H { s with heap := h', toks := t' } := I.un (Un.kept k) (I.hok.kept k)
theorem Inv.laid {a : Addr} {o : HO} {t' : Nat} (I : Inv X pins σ H s) (k : ∀ b u, s.heap.get? b = some u → h'.get? b = some u) (hp : s.heap.objs.size ≤ a) (new : ObjOk X.prog X.w (upd H a o) h' a o) :
    Inv X pins σ (upd H a o) { s with heap := h', toks := t' } := I.un (Un.laid k hp (I.hok.fresh hp)) (I.hok.laid k hp new)
theorem Inv.write {x e : Addr} {o : HO} {t' : Nat} (I : Inv X pins σ H s) (mu : Mut (H x)) (he : e = x ∨ H e = some (.own x)) (k : ∀ b u, b ≠ e → s.heap.get? b = some u → h'.get? b = some u) (heo : ∃ u, h'.get? e = some u)
    (new : ObjOk X.prog X.w (upd H x o) h' x o) : Inv X pins σ (upd H x o) { s with heap := h', toks := t' } := I.un (Un.write mu he k heo) (I.hok.write mu he k heo new)
theorem Inv.pins_of {pins' : List (Addr × Obj)} (I : Inv X pins σ H s) (h : ∀ p ∈ pins', s.heap.get? p.1 = some p.2 ∧ H p.1 = none ∧ p.1 ≠ X.env.locals ∧ p.1 ∉ X.fs ∧ ∀ v, p.2.data ≠ .cell v) : Inv X pins' σ H s :=
  ⟨I.ok, I.os, I.bare, I.base, I.loc, I.cell, I.free, I.freeC, fun p hp => (List.mem_append.mp hp).elim (fun z => I.pin p (List.mem_append_left _ z)) (h p), I.hok, I.len⟩
theorem nodup_ix {N : List Str} (hN : N.Nodup) {i j : Nat} {x : Str} (a : N[i]? = some x) (b : N[j]? = some x) : i = j := by
  obtain ⟨h1, e1⟩ := List.getElem?_eq_some_iff.mp a
  obtain ⟨h2, e2⟩ := List.getElem?_eq_some_iff.mp b
  exact (List.getElem_inj hN).mp (e1.trans e2.symm)
theorem store_ok2 {M : Model} {A : Around} {E : Value → Shared → Prop} {i : Nat} {x : Str} {v : V} {u : Value} {Q : Unit → Shared → Prop} (I : Inv X pins σ H s) (hN : X.N.Nodup) (hi : X.N[i]? = some x) (hx : Loc X.env.scope x) (r : RelV v u)
    (h : ∀ s', Inv X pins (σ.set i (some v)) H s' → (∃ a, Heap.SameBut a s.heap s'.heap ∧ (a = X.env.locals ∨ X.env.cells.lookup x = some a)) → Q () s') (hf : X.fn x = true ∨ X.env.scope.names.lookup x = some .local := by first | exact .inl rfl | exact .inr rfl | assumption) : wpAny M A (storeName X.env x u) Q E s := by
  obtain ⟨m, hn, hl⟩ := id I.loc
  have hcls : (X.env.scope.kind == .class || (X.env.scope.kind == .module && X.env.locals != X.env.globals)) = false := by rw [I.ok.kind]; rfl
  have hiσ : i < σ.length := by rw [I.len]; exact (List.getElem?_eq_some_iff.mp hi).1
  have cne := I.cne
  have tracked : ∀ {a : Addr} {h' : Heap}, (∃ o, s.heap.get? a = some o ∧ H a = none) → Heap.SameBut a s.heap h' → HOk X.prog X.w H h' := fun {a h'} ha hs b ob e => by
    obtain ⟨_, _, hfree⟩ := ha
    refine (I.hok b ob e).stay (fun c w' hc q => (hs.2 c ?_).trans q) (fun _ q => q) fun _ _ q => q
    rintro rfl
    rcases hc with rfl | hc
    · rw [hfree] at e; cases e
    · rw [hfree] at hc; cases hc
  rcases hx with hk | hk
  · refine wpAny_storeName_local hk hn (fun h' hn' hs => ?_) hcls
    obtain ⟨oL, _, _, hoL, _⟩ := id hn
    refine h _ ⟨I.ok, I.os, I.bare, ⟨fun b o e n hb hx => ?_, fun b o e n hb hx => ?_, I.base.free, fun b o e hx => ?_, I.base.tups, I.base.frzs, I.base.tbls⟩, ⟨_, hn', fun j y v' e1 e2 e3 => ?_⟩, fun y c e => ?_, I.free, I.freeC, fun p hp => ?_, tracked ⟨oL, hoL, I.free⟩ hs, by simpa using I.len⟩ ⟨_, hs, .inl rfl⟩
    · exact (hs.2 b (Nat.ne_of_lt (Nat.lt_of_lt_of_le (Heap.lt_size e) I.ok.above))).trans (I.base.keep b o e n hb hx)
    · obtain ⟨sl, e1⟩ := I.base.slot b o e n hb hx
      exact ⟨sl, (hs.2 b (Nat.ne_of_lt (Nat.lt_of_lt_of_le (Heap.lt_size e) I.ok.above))).trans e1⟩
    · obtain ⟨o', e1⟩ := I.base.there b o e hx
      exact ⟨o', (hs.2 b (Nat.ne_of_lt (Nat.lt_of_lt_of_le (Heap.lt_size e) I.ok.above))).trans e1⟩
    · by_cases hj : j = i
      · subst hj
        rw [hi] at e1; cases e1
        rw [List.getElem?_set_self hiσ] at e2
        cases e2
        exact ⟨u, r, .inl ⟨hk, by simp⟩⟩
      · rw [List.getElem?_set_ne (Ne.symm hj)] at e2
        obtain ⟨u', r', q⟩ := hl j y v' e1 e2 e3
        refine ⟨u', r', ?_⟩
        rcases q with ⟨k, e⟩ | ⟨k, c, e, z⟩
        · refine .inl ⟨k, ?_⟩
          have : y ≠ x := fun e => hj (nodup_ix hN e1 (e ▸ hi))
          simp [this, e]
        · exact .inr ⟨k, c, e, z.sameBut hs (cne y c e)⟩
    · obtain ⟨w', z⟩ := I.cell y c e
      exact ⟨w', z.sameBut hs (cne y c e)⟩
    · obtain ⟨e, n, ne, nf, d⟩ := I.pin p hp
      exact ⟨(hs.2 p.1 ne).trans e, n, ne, nf, d⟩
  · have hfn : X.fn x = true := by
      rcases hf with z | z
      · exact z
      · rw [z] at hk; cases hk
    obtain ⟨c, hc⟩ := I.ok.has x (.inl hk)
    obtain ⟨w', z⟩ := I.cell x c hc
    refine wpAny_storeName_cell I.ok.kind hk hc z (fun h' hc' hs => ?_)
    obtain ⟨oc, hoc, hocd⟩ := id z
    refine h { s with heap := h' } ⟨I.ok, I.os, I.bare, ⟨fun b o e n hb hx => ?_, fun b o e n hb hx => ?_, I.base.free, fun b o e hx => ?_, I.base.tups, I.base.frzs, I.base.tbls⟩, ⟨m, hn.sameBut hs (Ne.symm (cne x c hc)), fun j y v' e1 e2 e3 => ?_⟩, fun y c' e => ?_, I.free, I.freeC, fun p hp => ?_, tracked ⟨oc, hoc, I.freeC x c hc⟩ hs, by simpa using I.len⟩ ⟨c, hs, .inr hc⟩
    · exact (hs.2 b (Nat.ne_of_lt (Nat.lt_of_lt_of_le (Heap.lt_size e) (I.ok.cab x c hfn hc)))).trans (I.base.keep b o e n hb hx)
    · obtain ⟨sl, e1⟩ := I.base.slot b o e n hb hx
      exact ⟨sl, (hs.2 b (Nat.ne_of_lt (Nat.lt_of_lt_of_le (Heap.lt_size e) (I.ok.cab x c hfn hc)))).trans e1⟩
    · obtain ⟨o', e1⟩ := I.base.there b o e hx
      exact ⟨o', (hs.2 b (Nat.ne_of_lt (Nat.lt_of_lt_of_le (Heap.lt_size e) (I.ok.cab x c hfn hc)))).trans e1⟩
    · by_cases hj : j = i
      · subst hj
        rw [hi] at e1; cases e1
        rw [List.getElem?_set_self hiσ] at e2
        cases e2
        exact ⟨u, r, .inr ⟨.inl hk, c, hc, hc'⟩⟩
      · rw [List.getElem?_set_ne (Ne.symm hj)] at e2
        obtain ⟨u', r', q⟩ := hl j y v' e1 e2 e3
        refine ⟨u', r', ?_⟩
        rcases q with q | ⟨k, c', e, z'⟩
        · exact .inl q
        · refine .inr ⟨k, c', e, z'.sameBut hs ?_⟩
          rintro rfl
          exact hj (nodup_ix hN e1 (I.ok.inj _ _ _ e hc ▸ hi))
    · by_cases hcc : c' = c
      · subst hcc; exact ⟨_, hc'⟩
      · obtain ⟨w2, z2⟩ := I.cell y c' e
        exact ⟨w2, z2.sameBut hs hcc⟩
    · obtain ⟨e, n, ne, nf, d⟩ := I.pin p hp
      refine ⟨(hs.2 p.1 ?_).trans e, n, ne, nf, d⟩
      intro q
      rw [q, hoc] at e
      have q' : oc = p.2 := Option.some.inj e
      exact d w' (by rw [← q']; exact hocd)
theorem store_ok {M : Model} {A : Around} {E : Value → Shared → Prop} {i : Nat} {x : Str} {v : V} {u : Value} {Q : Unit → Shared → Prop} (I : Inv X pins σ H s) (hN : X.N.Nodup) (hi : X.N[i]? = some x) (hx : Loc X.env.scope x) (r : RelV v u)
    (h : ∀ s', Inv X pins (σ.set i (some v)) H s' → Q () s') (hf : X.fn x = true ∨ X.env.scope.names.lookup x = some .local := by first | exact .inl rfl | exact .inr rfl | assumption) : wpAny M A (storeName X.env x u) Q E s :=
  store_ok2 I hN hi hx r (fun s' I' _ => h s' I') hf
end
abbrev XK := Value → Option Addr → Hp → Prop
abbrev St := List (Option V)
abbrev VK := V → Hp → Prop
abbrev TE := St → Hp → VK → Prop
abbrev TT := St → Hp → (Bool → Hp → Prop) → Prop
abbrev TA := St → Hp → (List V → Hp → Prop) → Prop
structure Ends where
  nx : St → Hp → Prop
  rt : VK
  bk : St → Hp → Prop := fun _ _ => False
  ct : St → Hp → Prop := fun _ _ => False
abbrev TS := Ends → St → Hp → Prop
def EP (X : Cx) (pins : List (Addr × Obj)) (σ : St) (Q : VK) (u : Value) (s' : Shared) : Prop := ∃ v H', Inv X pins σ H' s' ∧ RelV v u ∧ Q v H'
def TP (X : Cx) (pins : List (Addr × Obj)) (σ : St) (Q : Bool → Hp → Prop) (b : Bool) (s' : Shared) : Prop := ∃ H', Inv X pins σ H' s' ∧ Q b H'
def AP (X : Cx) (pins : List (Addr × Obj)) (σ : St) (Q : List V → Hp → Prop) (us : List Value) (s' : Shared) : Prop := ∃ vs H', Inv X pins σ H' s' ∧ Vals vs us ∧ Q vs H'
def SP (X : Cx) (pins : List (Addr × Obj)) (D : Ends) (f : Flow) (s' : Shared) : Prop :=
  match f with
  | .next => ∃ σ' H', Inv X pins σ' H' s' ∧ D.nx σ' H'
  | .brk => ∃ σ' H', Inv X pins σ' H' s' ∧ D.bk σ' H'
  | .cont => ∃ σ' H', Inv X pins σ' H' s' ∧ D.ct σ' H'
  | .ret u => ∃ v σ' H', Inv X pins σ' H' s' ∧ RelV v u ∧ D.rt v H'
def PE (X : Cx) (e : Expr) (t : TE) : Prop :=
  ∀ (pins : List (Addr × Obj)) (s : Shared) (σ : St) (H : Hp) (Q : VK), Inv X pins σ H s → t σ H Q → wpAny (model X.prog X.w) X.A (eval e X.env) (EP X pins σ Q) X.xe s
def PT (X : Cx) (e : Expr) (t : TT) : Prop :=
  ∀ (pins : List (Addr × Obj)) (s : Shared) (σ : St) (H : Hp) (Q : Bool → Hp → Prop), Inv X pins σ H s → t σ H Q → wpAny (model X.prog X.w) X.A (isTrue e X.env (eval e X.env)) (TP X pins σ Q) X.xe s
def PW (X : Cx) (e : Expr) (t : TT) : Prop :=
  ∀ (whole : Sem Value) (pins : List (Addr × Obj)) (s : Shared) (σ : St) (H : Hp) (Q : Bool → Hp → Prop), Inv X pins σ H s → t σ H Q → wpAny (model X.prog X.w) X.A (isTrue e X.env whole) (TP X pins σ Q) X.xe s
theorem PW.pt {X : Cx} {e : Expr} {t : TT} (h : PW X e t) : PT X e t := h _
def PA (X : Cx) (es : List Expr) (t : TA) : Prop :=
  ∀ (pos : Pos) (pins : List (Addr × Obj)) (s : Shared) (σ : St) (H : Hp) (Q : List V → Hp → Prop), Inv X pins σ H s → t σ H Q → wpAny (model X.prog X.w) X.A (spliced (backTo pos (starEach es X.env))) (AP X pins σ Q) X.xe s
def PS (X : Cx) (st : Stmt) (t : TS) : Prop :=
  ∀ (pins : List (Addr × Obj)) (s : Shared) (σ : St) (H : Hp) (D : Ends), Inv X pins σ H s → t D σ H → wpAny (model X.prog X.w) X.A (exec st X.env) (SP X pins D) X.xe s
def PSs (X : Cx) (st : List Stmt) (t : TS) : Prop :=
  ∀ (pins : List (Addr × Obj)) (s : Shared) (σ : St) (H : Hp) (D : Ends), Inv X pins σ H s → t D σ H → wpAny (model X.prog X.w) X.A (execs st X.env) (SP X pins D) X.xe s
theorem thn {α : Type} {t : Sem α} {Q Q' : α → Shared → Prop} {M : Model} {A : Around} {E : Value → Shared → Prop} {s : Shared} (h : wpAny M A t Q E s) (hQ : ∀ a s, Q a s → Q' a s) : wpAny M A t Q' E s := wpAny_mono h hQ fun _ _ x => x
end L2
namespace L2
open PySem PySem.Spec PyProof.Rows
section
variable {X : Cx}
def tVar (i : Nat) : TE := fun σ H Q => ∃ v, σ[i]? = some (some v) ∧ Q v H
def tC (v : V) : TE := fun _ H Q => Q v H
theorem pe_var {i : Nat} {x : Str} {pos : Pos} (hN : X.N[i]? = some x) (hv : Vis X.env.scope x) (hd : (x == ("__debug__" : Str)) = false := by decide) (hcd : (x == ("__classdict__" : Str)) = false := by decide) : PE X (.Name x pos) (tVar i) := by
  intro pins s σ H Q I h
  obtain ⟨v, e, h⟩ := h
  obtain ⟨m, hn, hl⟩ := I.loc
  obtain ⟨u, r, l⟩ := hl i x v hN e hv
  have fin : EP X pins σ Q u s := ⟨v, H, I, r, h⟩
  rcases l with ⟨hk, hm⟩ | ⟨hk, c, hc, hcell⟩
  · exact wpAny_Name (wpAny_loadName_local I.ok.kind hk hn hm fin) hd
  · rcases hk with hk | hk
    · exact wpAny_Name (wpAny_loadName_cell I.ok.kind hk hc hcell fin) hd
    · exact wpAny_Name (wpAny_loadName_free I.ok.kind hk hc hcell fin hcd) hd
theorem pe_int {i j pos} : PE X (.Constant (.int i) j pos) (tC (.int i)) := fun _ _ _ H _ I h => wpAny_Constant_int ⟨.int i, H, I.tok _, ⟨_, rfl⟩, h⟩
theorem pe_bl {b j pos} : PE X (.Constant (.bool b) j pos) (tC (.bl b)) := fun _ _ _ H _ I h => Constant_bool ⟨.bl b, H, I, rfl, h⟩
theorem pe_non {j pos} : PE X (.Constant .none j pos) (tC .non) := fun _ _ _ H _ I h => Constant_none ⟨.non, H, I, rfl, h⟩
theorem pe_str {x j pos} : PE X (.Constant (.str x) j pos) (tC (.str x)) := fun _ _ _ H _ I h => Calls.Constant_str ⟨.str x, H, I.tok _, ⟨_, rfl⟩, h⟩
def Gl (X : Cx) (x : Str) : Prop := X.env.kindOf x = some .globalImplicit
theorem ld_glob {E : Value → Shared → Prop} {pins : List (Addr × Obj)} {s : Shared} {σ : St} {H : Hp} {x : Str} {u : Value} {pos : Pos} {Q : Value → Shared → Prop} (I : Inv X pins σ H s) (hg : Gl X x) (hm : X.mg x = some u) (h : Q u s)
    (hd : (x == ("__debug__" : Str)) = false := by decide) : wpAny (model X.prog X.w) X.A (eval (.Name x pos) X.env) Q E s :=
  Calls.Name_function_global I.ok.kind hg (Calls.loadGlobal_global (by rw [I.ok.glob]; exact I.mod.glob.keeps I.bk) hm h) hd
theorem ld_blt {E : Value → Shared → Prop} {pins : List (Addr × Obj)} {s : Shared} {σ : St} {H : Hp} {x : Str} {u : Value} {pos : Pos} {Q : Value → Shared → Prop} (I : Inv X pins σ H s) (hg : Gl X x) (hm : X.mg x = none) (hv : bootBuiltins x = some u) (h : Q u s)
    (hn : x ≠ "__name__" := by decide) (hd : (x == ("__debug__" : Str)) = false := by decide) : wpAny (model X.prog X.w) X.A (eval (.Name x pos) X.env) Q E s := by
  obtain ⟨mb, h1, h2⟩ := I.mod.blt
  exact Calls.Name_function_global I.ok.kind hg (Calls.loadGlobal_builtin (by rw [I.ok.glob]; exact I.mod.glob.keeps I.bk) hm (by rw [I.ok.blt]; exact h1.keeps I.bk) ((h2 x hn).trans hv) h) hd
theorem pe_glob {x : Str} {v : V} {u : Value} {pos : Pos} (hg : Gl X x) (hm : X.mg x = some u) (r : RelV v u) (hd : (x == ("__debug__" : Str)) = false := by decide) : PE X (.Name x pos) (tC v) :=
  fun _ _ _ H _ I h => ld_glob I hg hm ⟨v, H, I, r, h⟩ hd
theorem pe_bltn {x : Str} {v : V} {u : Value} {pos : Pos} (hg : Gl X x) (hm : X.mg x = none) (hv : bootBuiltins x = some u) (r : RelV v u) (hn : x ≠ "__name__" := by decide) (hd : (x == ("__debug__" : Str)) = false := by decide) : PE X (.Name x pos) (tC v) :=
  fun _ _ _ H _ I h => ld_blt I hg hm hv ⟨v, H, I, r, h⟩ hn hd
variable {a b : Expr} {ta tb : TE} {pos : Pos}
def tB (t : TE) : TT := fun σ H Q => t σ H fun x H1 => ∃ c, x = .bl c ∧ Q c H1
theorem pt_val {e : Expr} {t : TE} (h : PE X e t) (he : ∀ whole, isTrue e X.env whole = (do let v ← whole; standAt e.pos; holding [v] (truthy v)) := by intro _; rfl) : PT X e (tB t) := by
  intro pins s σ H Q I hw
  refine isTrue_plain (thn (h pins s σ H _ I hw) fun v s1 ⟨x, H1, I1, r1, q1⟩ => ?_) (he _)
  obtain ⟨d, rfl, q⟩ := q1
  cases r1
  exact wpAny_truthy_bool ⟨H1, I1, q⟩
variable {tA tB' : TT} {rest : List Expr}
def tAnd (t u : TT) : TT := fun σ H Q => t σ H fun c H1 => if c = true then u σ H1 Q else Q false H1
def tOr (t u : TT) : TT := fun σ H Q => t σ H fun c H1 => if c = true then Q true H1 else u σ H1 Q
def tNot (t : TT) : TT := fun σ H Q => t σ H fun c H1 => Q (!c) H1
theorem pw_and1 (ha : PT X a tA) : PW X (.BoolOp .And [a] pos) tA := by
  intro wh pins s σ H Q I h
  refine isTrue_and (thn (ha pins s σ H Q I h) fun c s1 e => ?_)
  cases c with
  | true => exact isTrue_and_nil e
  | false => exact e
theorem pw_or1 (ha : PT X a tA) : PW X (.BoolOp .Or [a] pos) tA := by
  intro wh pins s σ H Q I h
  refine isTrue_or (thn (ha pins s σ H Q I h) fun c s1 e => ?_)
  cases c with
  | false => exact isTrue_or_nil e
  | true => exact e
theorem pw_and (ha : PT X a tA) (hb : PW X (.BoolOp .And (b :: rest) pos) tB') : PW X (.BoolOp .And (a :: b :: rest) pos) (tAnd tA tB') := by
  intro wh pins s σ H Q I h
  refine isTrue_and (thn (ha pins s σ H _ I h) fun c s1 ⟨H1, I1, q1⟩ => ?_)
  cases c with
  | true => exact hb wh pins s1 σ H1 Q I1 q1
  | false => exact ⟨H1, I1, q1⟩
theorem pw_or (ha : PT X a tA) (hb : PW X (.BoolOp .Or (b :: rest) pos) tB') : PW X (.BoolOp .Or (a :: b :: rest) pos) (tOr tA tB') := by
  intro wh pins s σ H Q I h
  refine isTrue_or (thn (ha pins s σ H _ I h) fun c s1 ⟨H1, I1, q1⟩ => ?_)
  cases c with
  | true => exact ⟨H1, I1, q1⟩
  | false => exact hb wh pins s1 σ H1 Q I1 q1
theorem pt_not (ha : PT X a tA) : PT X (.UnaryOp .Not a pos) (tNot tA) := by
  intro pins s σ H Q I h
  exact isTrue_not (ha pins s σ H (fun c H1 => Q (!c) H1) I h)
def tAndV (ta tb : TE) : TE := fun σ H Q => ta σ H fun x H1 => ∃ c, x = .bl c ∧ if c = true then tb σ H1 Q else Q (.bl false) H1
def tNotV (ta : TE) : TE := fun σ H Q => ta σ H fun x H1 => ∃ c, x = .bl c ∧ Q (.bl (!c)) H1
theorem pe_one {op} {t : TE} (h : PE X a t) : PE X (.BoolOp op [a] pos) t := fun pins s σ H Q I hw => BoolOp_one (h pins s σ H Q I hw)
theorem pe_and (ha : PE X a ta) (hb : PE X (.BoolOp .And (b :: rest) pos) tb) : PE X (.BoolOp .And (a :: b :: rest) pos) (tAndV ta tb) := by
  intro pins s σ H Q I h
  refine BoolOp_and (thn (ha pins s σ H _ I h) fun v s1 ⟨x, H1, I1, r1, q1⟩ => ?_)
  obtain ⟨c, rfl, q1⟩ := q1
  cases r1
  refine wpAny_truthy_bool ?_
  cases c with
  | true => exact hb pins s1 σ H1 Q I1 q1
  | false => exact ⟨.bl false, H1, I1, rfl, q1⟩
theorem pe_not (ha : PE X a ta) : PE X (.UnaryOp .Not a pos) (tNotV ta) := by
  intro pins s σ H Q I h
  refine UnaryOp_ (thn (ha pins s σ H _ I h) fun v s1 ⟨x, H1, I1, r1, q1⟩ => ?_)
  obtain ⟨c, rfl, q1⟩ := q1
  cases r1
  exact not_of (wpAny_truthy_bool ⟨.bl (!c), H1, I1, rfl, q1⟩)
end
end L2
namespace L2
open PySem PySem.Spec PyProof.Rows
def SqL (K : PySem.W.Frag) (H : Hp) (a : Addr) (xs : List V) : Prop :=
  Rd H a (.lst xs) ∨
    ∃ (o : Obj) (its : Array Value) (n : Nat), K.lookup a = some o ∧ o.cls = .type "list" ∧ o.dict = none ∧ o.data = .seq its n ∧ its.size ≤ sizeLine ∧ Vals xs its.toList
def SqT (K : PySem.W.Frag) (H : Hp) (a : Addr) (xs : List V) : Prop :=
  Rd H a (.tup xs) ∨
    ∃ (o : Obj) (its : Array Value) (n : Nat), K.lookup a = some o ∧ o.cls = .type "tuple" ∧ o.data = .seq its n ∧ its.size ≤ sizeLine ∧ Vals xs its.toList
def absV : Value → Option V
  | .none => some .non
  | .bool b => some (.bl b)
  | .int i _ => some (.int i)
  | .str x _ => some (.str x)
  | .bytes b _ => some (.byt b)
  | .float b _ => some (.flt b)
  | .ref a => some (.ref a)
  | .type n => some (.ty n)
  | _ => none
theorem RelV.abs {x : V} {u : Value} (r : RelV x u) : absV u = some x := by
  cases x with
  | non => cases r; rfl
  | bl _ => cases r; rfl
  | int _ => obtain ⟨t, rfl⟩ := r; rfl
  | str _ => obtain ⟨t, rfl⟩ := r; rfl
  | byt _ => obtain ⟨t, rfl⟩ := r; rfl
  | flt _ => obtain ⟨t, rfl⟩ := r; rfl
  | ref _ => cases r; rfl
  | ty _ => cases r; rfl
theorem RelV.inj {x y : V} {u : Value} (r : RelV x u) (q : RelV y u) : x = y := Option.some.inj (r.abs.symm.trans q.abs)
theorem Vals.inj : ∀ {xs ys : List V} {us : List Value}, Vals xs us → Vals ys us → xs = ys
  | _, _, _, .nil, .nil => rfl
  | _, _, _, .cons r t, .cons r' t' => by rw [r.inj r', Vals.inj t t']
section
variable {X : Cx} {pins : List (Addr × Obj)} {σ : St} {H : Hp} {s : Shared} {a : Addr} {xs ys : List V}
theorem SqL.of {K : PySem.W.Frag} (h : H a = some (.lst xs)) : SqL K H a xs := .inl (.inl h)
theorem SqT.of {K : PySem.W.Frag} (h : H a = some (.tup xs)) : SqT K H a xs := .inl (.inl h)
theorem Inv.list (I : Inv X pins σ H s) (h : SqL X.K H a xs) : ∃ its : List Value, Vals xs its ∧ PlainL s.heap a its.toArray ∧ xs.length ≤ sizeLine := by
  rcases h with h | ⟨o, its, n, hk, hc, hd, hs, hz, r⟩
  · obtain ⟨z, its, n, r, e⟩ := h.ok I.hok
    exact ⟨its, r, ⟨_, n, e, rfl, rfl, rfl⟩, z⟩
  · refine ⟨its.toList, r, ⟨o, n, I.kIn a o hk, hc, hd, by simpa using hs⟩, ?_⟩
    have e := r.length
    simp only [Array.length_toList] at e
    omega
theorem Inv.tuple (I : Inv X pins σ H s) (h : SqT X.K H a xs) : ∃ its : List Value, Vals xs its ∧ IsTup s.heap a its.toArray ∧ xs.length ≤ sizeLine := by
  rcases h with h | ⟨o, its, n, hk, hc, hs, hz, r⟩
  · obtain ⟨z, its, r, p⟩ := h.ok I.hok
    exact ⟨its, r, p, z⟩
  · refine ⟨its.toList, r, ⟨o, I.kIn a o hk, hc, n, by simpa using hs⟩, ?_⟩
    have e := r.length
    simp only [Array.length_toList] at e
    omega
theorem Inv.list_inj (I : Inv X pins σ H s) (h : SqL X.K H a xs) (h' : SqL X.K H a ys) : xs = ys := by
  obtain ⟨its, r, ⟨o, n, e, _, _, d⟩, _⟩ := I.list h
  obtain ⟨its', r', ⟨o', n', e', _, _, d'⟩, _⟩ := I.list h'
  rw [e] at e'; cases e'
  rw [d] at d'
  injection d' with d1 _
  have : its = its' := by simpa using congrArg Array.toList d1
  subst this
  exact r.inj r'
theorem Inv.tuple_inj (I : Inv X pins σ H s) (h : SqT X.K H a xs) (h' : SqT X.K H a ys) : xs = ys := by
  obtain ⟨its, r, ⟨o, e, _, n, d⟩, _⟩ := I.tuple h
  obtain ⟨its', r', ⟨o', e', _, n', d'⟩, _⟩ := I.tuple h'
  rw [e] at e'; cases e'
  rw [d] at d'
  injection d' with d1 _
  have : its = its' := by simpa using congrArg Array.toList d1
  subst this
  exact r.inj r'
end
abbrev Cx.wish (X : Cx) (E : Value → Shared → Prop) : Cx := { X with xe := E }
abbrev Cx.nox (X : Cx) : Cx := X.wish fun _ _ => False
theorem Cx.Ok.wish {X : Cx} (ok : X.Ok) (E : Value → Shared → Prop) : (X.wish E).Ok :=
  ⟨ok.mod, ok.kind, ok.glob, ok.blt, ok.above, ok.inj, ok.has, ok.cab, ok.hd, ok.frames, ok.stk, ok.exf, ok.bs, ok.bsz, ok.noex, ok.exfs, ok.funs, ok.frf⟩
theorem Cx.Ok.unwish {X : Cx} {E : Value → Shared → Prop} (ok : (X.wish E).Ok) : X.Ok :=
  ⟨ok.mod, ok.kind, ok.glob, ok.blt, ok.above, ok.inj, ok.has, ok.cab, ok.hd, ok.frames, ok.stk, ok.exf, ok.bs, ok.bsz, ok.noex, ok.exfs, ok.funs, ok.frf⟩
section
variable {X : Cx} {pins : List (Addr × Obj)} {σ : St} {H : Hp} {s : Shared} {E : Value → Shared → Prop}
theorem Inv.wish (I : Inv X pins σ H s) (E : Value → Shared → Prop) : Inv (X.wish E) pins σ H s := ⟨I.ok.wish E, I.os, I.bare, I.base, I.loc, I.cell, I.free, I.freeC, I.pin, I.hok, I.len⟩
theorem Inv.unwish (I : Inv (X.wish E) pins σ H s) : Inv X pins σ H s := ⟨I.ok.unwish, I.os, I.bare, I.base, I.loc, I.cell, I.free, I.freeC, I.pin, I.hok, I.len⟩
theorem SP.unwish {D : Ends} {f : Flow} {s' : Shared} (h : SP (X.wish E) pins D f s') : SP X pins D f s' := by
  cases f with
  | next => obtain ⟨σ', H', I, q⟩ := h; exact ⟨σ', H', I.unwish, q⟩
  | brk => obtain ⟨σ', H', I, q⟩ := h; exact ⟨σ', H', I.unwish, q⟩
  | cont => obtain ⟨σ', H', I, q⟩ := h; exact ⟨σ', H', I.unwish, q⟩
  | ret u => obtain ⟨v, σ', H', I, r, q⟩ := h; exact ⟨v, σ', H', I.unwish, r, q⟩
theorem PSs.nox {st : List Stmt} {t : TS} (h : PSs X.nox st t) : PSs X st t := fun pins s σ H D I hw =>
  wpAny_mono (h pins s σ H D (I.wish _) hw) (fun _ _ q => q.unwish) fun _ _ z => False.elim z
end
section
variable {X : Cx} {st : Stmt} {rest : List Stmt} {t u : TS} {e : Expr} {te : TE} {pos : Pos}
def tNext : TS := fun D σ H => D.nx σ H
def tSeq (t u : TS) : TS := fun D σ H => t { D with nx := u D } σ H
theorem pss_nil : PSs X [] tNext := fun _ _ σ H _ I h => wpAny_execs_nil ⟨σ, H, I, h⟩
theorem pss_cons (h1 : PS X st t) (h2 : PSs X rest u) : PSs X (st :: rest) (tSeq t u) := by
  intro pins s σ H D I h
  refine wpAny_execs_cons (thn (h1 pins s σ H { D with nx := u D } I h) fun f s1 q => ?_)
  cases f with
  | next =>
    obtain ⟨σ', H', I', q⟩ := q
    exact h2 pins s1 σ' H' D I' q
  | ret v => exact q
  | brk => exact q
  | cont => exact q
theorem pss_one (h1 : PS X st t) : PSs X [st] t := by
  intro pins s σ H D I h
  refine wpAny_execs_cons (thn (h1 pins s σ H D I h) fun f s1 q => ?_)
  cases f with
  | next => exact wpAny_execs_nil q
  | ret v => exact q
  | brk => exact q
  | cont => exact q
theorem Inv.quiet {pins : List (Addr × Obj)} {σ : St} {H : Hp} {s : Shared} (I : Inv X pins σ H s) : interactive X.env = false := by simp [interactive, I.ok.kind]
def tDrop (te : TE) : TS := fun D σ H => te σ H fun _ H1 => D.nx σ H1
theorem ps_expr (he : PE X e te) (hs : swapsWith e none pos.line X.env = pure false := by rfl) : PS X (.Expr e pos) (tDrop te) := by
  intro pins s σ H D I h
  exact wpAny_Expr_any (thn (he pins s σ H _ I h) fun v s1 ⟨x, H1, I1, r1, q1⟩ => ⟨σ, H1, I1, q1⟩) I.quiet hs
def tRet (te : TE) : TS := fun D σ H => te σ H D.rt
theorem ps_ret (he : PE X e te) : PS X (.Return (some e) pos) (tRet te) := by
  intro pins s σ H D I h
  exact wpAny_Return_some (thn (he pins s σ H _ I h) fun v s1 ⟨x, H1, I1, r1, q1⟩ => ⟨x, σ, H1, I1, r1, q1⟩)
def tIfS (c : TT) (t u : TS) : TS := fun D σ H => c σ H fun b H1 => if b = true then t D σ H1 else u D σ H1
theorem ps_if {c : Expr} {a b : List Stmt} {tc : TT} (hc : PT X c tc) (ha : PSs X a t) (hb : PSs X b u) : PS X (.If c a b pos) (tIfS tc t u) := by
  intro pins s σ H D I h
  refine wpAny_If (thn (hc pins s σ H _ I h) fun d s1 ⟨H1, I1, q1⟩ => ?_)
  cases d with
  | true => exact ha pins s1 σ H1 D I1 q1
  | false => exact hb pins s1 σ H1 D I1 q1
def tNever : TS := fun _ _ _ => False
theorem pss_never {sts : List Stmt} : PSs X sts tNever := fun _ _ _ _ _ _ h => h.elim
end
abbrev TG := V → St → Hp → (St → Hp → Prop) → Prop
abbrev TGs := List V → St → Hp → (St → Hp → Prop) → Prop
def PG (X : Cx) (target : Expr) (t : TG) : Prop :=
  ∀ (pins : List (Addr × Obj)) (s : Shared) (σ : St) (H : Hp) (v : V) (u : Value) (Q : St → Hp → Prop), Inv X pins σ H s → RelV v u → t v σ H Q →
    wpAny (model X.prog X.w) X.A (assign target X.env u) (fun _ s' => ∃ σ' H', Inv X pins σ' H' s' ∧ Q σ' H') X.xe s
def PGs (X : Cx) (ts : List Expr) (t : TGs) : Prop :=
  ∀ (pins : List (Addr × Obj)) (s : Shared) (σ : St) (H : Hp) (vs : List V) (us : List Value) (Q : St → Hp → Prop), Inv X pins σ H s → Vals vs us → t vs σ H Q →
    wpAny (model X.prog X.w) X.A (assignInOrder ((assignEach ts X.env).map (·.2)) us) (fun _ s' => ∃ σ' H', Inv X pins σ' H' s' ∧ Q σ' H') X.xe s
abbrev TSet := V → V → V → Hp → (Hp → Prop) → Prop
def PSet (X : Cx) (t : TSet) : Prop :=
  ∀ (pins : List (Addr × Obj)) (s : Shared) (σ : St) (H : Hp) (o i v : V) (ov iv u : Value) (Q : Hp → Prop), Inv X pins σ H s → RelV o ov → RelV i iv → RelV v u → t o i v H Q →
    wpAny (model X.prog X.w) X.A (setItem ov iv u) (fun _ s' => ∃ H', Inv X pins σ H' s' ∧ Q H') X.xe s
section
variable {X : Cx} {pos : Pos}
def gName (i : Nat) : TG := fun v σ H Q => Q (σ.set i (some v)) H
theorem pg_name {i : Nat} {x : Str} (hN : X.N.Nodup) (hi : X.N[i]? = some x) (hx : Loc X.env.scope x) (hf : X.fn x = true ∨ X.env.scope.names.lookup x = some .local := by first | exact .inl rfl | exact .inr rfl | assumption) : PG X (.Name x pos) (gName i) := by
  intro pins s σ H v u Q I r h
  exact wpAny_assign_Name (store_ok I hN hi hx r (fun s' I' => ⟨_, H, I', h⟩) hf)
def gNil : TGs := fun vs σ H Q => vs = [] ∧ Q σ H
def gCons (t : TG) (u : TGs) : TGs := fun vs σ H Q => ∃ v r, vs = v :: r ∧ t v σ H fun σ' H' => u r σ' H' Q
theorem pgs_nil : PGs X [] gNil := by
  intro pins s σ H vs us Q I r h
  obtain ⟨e, h⟩ := h
  subst e
  cases r
  exact assignInOrder_nil ⟨σ, H, I, h⟩
theorem pgs_cons {e : Expr} {es : List Expr} {t : TG} {u : TGs} (h1 : PG X e t) (h2 : PGs X es u)
    (hs : (assignEach (e :: es) X.env).map (·.2) = assign e X.env :: (assignEach es X.env).map (·.2) := by rfl) : PGs X (e :: es) (gCons t u) := by
  intro pins s σ H vs us Q I r h
  obtain ⟨v, vr, e1, h⟩ := h
  subst e1
  cases r with
  | cons r rr =>
    rw [hs]
    refine assignInOrder_cons (thn (h1 pins s σ H _ _ _ I r h) fun _ s1 ⟨σ1, H1, I1, q1⟩ => ?_)
    exact h2 pins s1 σ1 H1 _ _ Q I1 rr q1
def gTup (K : PySem.W.Frag) (n : Nat) (t : TGs) : TG := fun v σ H Q => ∃ a xs, v = .ref a ∧ SqT K H a xs ∧ xs.length = n ∧ t xs σ H Q
theorem pg_tup {es : List Expr} {k : Nat} {t : TGs} {n : Nat} (hc : X.calm = true) (h : PGs X es t)
    (hn : (assignEach es X.env).length = n := by rfl) (hst : (assignEach es X.env).findIdx? (·.1) = none := by rfl) : PG X (.Tuple es k pos) (gTup X.K n t) := by
  intro pins s σ H v u Q I r hw
  obtain ⟨a, xs, e1, hq, hl, hw⟩ := hw
  subst e1
  cases r
  obtain ⟨its, rv, ht, hz⟩ := I.tuple hq
  refine assign_Tuple_tuple (I.ok.hd hc) ht (by simp [hn, ← hl, rv.length]) hst fun h' hx => ?_
  have I1 : Inv X pins σ H { s with heap := h' } := I.kept (t' := s.toks) fun b o e => hx b o (Nat.ne_of_lt (Heap.lt_size e)) e
  exact h pins _ σ H xs _ Q I1 (by simpa using rv) hw
def gSub (to ti : TE) (t : TSet) : TG := fun v σ H Q => to σ H fun o H1 => ti σ H1 fun i H2 => t o i v H2 fun H3 => Q σ H3
theorem pg_sub {o i : Expr} {to ti : TE} {t : TSet} (ho : PE X o to) (hi : PE X i ti) (hs : PSet X t)
    (ha : ∀ v, assign (.Subscript o i pos) X.env v = (do
      let ov ← holding [v] (eval o X.env)
      let iv ← holding [v, ov] (eval i X.env)
      standAt pos
      holding [v, ov, iv] (setItem ov iv v)
      release [v, ov, iv] []) := by intro _; rfl) : PG X (.Subscript o i pos) (gSub to ti t) := by
  intro pins s σ H v u Q I r h
  rw [ha]
  refine wpAny_bind (wpAny_holding (thn (ho pins s σ H _ I h) fun ov s1 ⟨x, H1, I1, r1, q1⟩ => ?_))
  refine wpAny_bind (wpAny_holding (thn (hi pins s1 σ H1 _ I1 q1) fun iv s2 ⟨y, H2, I2, r2, q2⟩ => ?_))
  refine wpAny_bind (wpAny_standAt (wpAny_bind (wpAny_holding (thn (hs pins s2 σ H2 x y v ov iv u _ I2 r1 r2 r q2) fun _ s3 ⟨H3, I3, q3⟩ => ?_))))
  exact wpAny_release ⟨σ, H3, I3, q3⟩
def tAsg (te : TE) (g : TG) : TS := fun D σ H => te σ H fun x H1 => g x σ H1 D.nx
theorem ps_asg {tg e : Expr} {te : TE} {g : TG} (he : PE X e te) (hg : PG X tg g) (hs : swapsWithSole [tg] e pos.line X.env = pure false := by rfl) (hw : swappedStores [tg] e X.env = pure none := by rfl)
    (h1 : (assignEach [tg] X.env).map (·.2) = [assign tg X.env] := by rfl) : PS X (.Assign [tg] e pos) (tAsg te g) := by
  intro pins s σ H D I h
  refine wpAny_Assign_stores (thn (he pins s σ H _ I h) fun v s1 ⟨x, H1, I1, r1, q1⟩ => ?_) hs hw
  rw [h1]
  exact thn (hg pins s1 σ H1 x v _ I1 r1 q1) fun _ s2 q => q
theorem ps_set {i : Nat} {x : Str} {e : Expr} {te : TE} {pos' : Pos} (hN : X.N.Nodup) (hi : X.N[i]? = some x) (hx : Loc X.env.scope x) (he : PE X e te) (hs : swapsWith e (some (.Name x pos')) pos.line X.env = pure false := by rfl) (hf : X.fn x = true ∨ X.env.scope.names.lookup x = some .local := by first | exact .inl rfl | exact .inr rfl | assumption) :
    PS X (.Assign [.Name x pos'] e pos) (tAsg te (gName i)) := by
  intro pins s σ H D I h
  refine wpAny_Assign_Name (thn (he pins s σ H _ I h) fun v s1 ⟨y, H1, I1, r1, q1⟩ => ?_) hs
  exact store_ok I1 hN hi hx r1 (fun s2 I2 => ⟨_, H1, I2, q1⟩) hf
def tPar (i j : Nat) (ta : TA) : TS := fun D σ H => ta σ H fun vs H1 => ∃ v w, vs = [v, w] ∧ D.nx ((σ.set i (some v)).set j (some w)) H1
theorem ps_par {i j : Nat} {x y : Str} {a b : Expr} {ta : TA} {px py pt : Pos} {kt k2 pt2} (hc : X.calm = true) (hN : X.N.Nodup) (hi : X.N[i]? = some x) (hj : X.N[j]? = some y) (hij : i ≠ j)
    (hx : X.env.scope.names.lookup x = some .local) (hy : X.env.scope.names.lookup y = some .local) (ha : PA X [a, b] ta)
    (hw : swappedStores [.Tuple [.Name x px, .Name y py] kt pt] (.Tuple [a, b] k2 pt2) X.env = pure (some [x, y]))
    (hs : swapsWithSole [.Tuple [.Name x px, .Name y py] kt pt] (.Tuple [a, b] k2 pt2) pos.line X.env = pure false := by rfl) :
    PS X (.Assign [.Tuple [.Name x px, .Name y py] kt pt] (.Tuple [a, b] k2 pt2) pos) (tPar i j ta) := by
  intro pins s σ H D I h
  rw [exec_Assign_arm]
  refine wpAny_bind (wpAny_standAt ?_)
  rw [hs]
  refine wpAny_bind (wpAny_pure ?_)
  rw [if_neg (by decide)]
  refine wpAny_bind (Tuple_ (thn (ha _ pins s σ H _ I h) fun us s1 ⟨vs, H1, I1, r1, q1⟩ => ?_))
  obtain ⟨v, w, e1, q1⟩ := q1
  subst e1
  obtain ⟨u1, u2, rfl, rv, rw'⟩ : ∃ u1 u2, us = [u1, u2] ∧ RelV v u1 ∧ RelV w u2 := by
    cases r1 with
    | cons p q =>
      cases q with
      | cons p' q' =>
        cases q'
        exact ⟨_, _, rfl, p, p'⟩
  refine wpAny_newObj_type ?_ (by show 2 ≤ sizeLine; decide)
  have I2 : Inv X pins σ H1 { s1 with heap := s1.heap.push { cls := .type "tuple", data := .seq [u1, u2].toArray } } := I1.kept (t' := s1.toks) fun b o e => Heap.get?_push_of_some _ e
  rw [hw]
  refine wpAny_bind (wpAny_pure ?_)
  show wpAny (model X.prog X.w) X.A (do rule "assign.swapped-stores"; let items ← unpackItems (.ref s1.heap.objs.size) 2 none; assignInOrder [fun v => bindName X.env y v, fun v => bindName X.env x v] items.reverse; pure Flow.next) _ _ _
  refine wpAny_bind (wpAny_rule (wpAny_bind (unpackItems_tuple (items := #[u1, u2]) (I.ok.hd hc) (IsTup.new s1.heap _) fun h' hx' => ?_)))
  have I3 := I2.kept (h' := h') (t' := s1.toks) fun b o e => hx' b o (Nat.ne_of_lt (Heap.lt_size e)) e
  show wpAny _ _ (assignInOrder [fun v => bindName X.env y v, fun v => bindName X.env x v] [u2, u1] >>= fun _ => pure Flow.next) _ _ _
  refine wpAny_bind (assignInOrder_cons (wpAny_bindName (store_ok I3 hN hj (.inl hy) rw' (fun s2 I4 => ?_) (.inr hy))))
  refine assignInOrder_cons (wpAny_bindName (store_ok I4 hN hi (.inl hx) rv (fun s3 I5 => assignInOrder_nil (wpAny_pure ?_)) (.inr hx)))
  rw [List.set_comm _ _ (Ne.symm hij)] at I5
  exact ⟨_, H1, I5, q1⟩
end
section
variable {X : Cx} {pos : Pos}
def tWhile (c : TT) (tb : TS) : TS := fun D σ H => ∃ W : Nat → St → Hp → Prop, (∃ m, W m σ H) ∧ ∀ m σ H, W m σ H →
  c σ H fun b H1 => if b = true then ∃ N : St → Hp → Prop, (∀ σ' H', N σ' H' → ∃ m', m' < m ∧ W m' σ' H') ∧ tb { D with nx := N, ct := N, bk := D.nx } σ H1 else D.nx σ H1
theorem ps_while {c : Expr} {body : List Stmt} {tc : TT} {tb : TS} (hp : PassesOwn (model X.prog X.w) X.A X.env X.xe) (hc : PT X c tc) (hb : PSs X body tb) : PS X (.While c body [] pos) (tWhile tc tb) := by
  intro pins s σ H D I h
  obtain ⟨W, ⟨m0, w0⟩, turn⟩ := h
  refine wpAny_While (codeAny_whileLoop (fun n s' => ∃ σ' H', Inv X pins σ' H' s' ∧ W n σ' H') ?_ m0 ⟨σ, H, I, w0⟩)
  rintro n s1 ⟨σ1, H1, I1, w1⟩
  refine wpAny_passesOwn hp (thn (hc pins s1 σ1 H1 _ I1 (turn n σ1 H1 w1)) fun b s2 ⟨H2, I2, q2⟩ => ?_)
  cases b with
  | true =>
    obtain ⟨N, hN, q2⟩ := q2
    rw [if_pos rfl]
    refine wpAny_passesOwn hp (thn (hb pins s2 σ1 H2 _ I2 q2) fun f s3 q3 => ?_)
    cases f with
    | next =>
      obtain ⟨σ3, H3, I3, n3⟩ := q3
      obtain ⟨m', hm, w3⟩ := hN σ3 H3 n3
      exact ⟨m', hm, σ3, H3, I3, w3⟩
    | cont =>
      obtain ⟨σ3, H3, I3, n3⟩ := q3
      obtain ⟨m', hm, w3⟩ := hN σ3 H3 n3
      exact ⟨m', hm, σ3, H3, I3, w3⟩
    | brk => exact q3
    | ret v => exact q3
  | false =>
    rw [if_neg Bool.false_ne_true]
    exact wpAny_execs_nil ⟨σ1, H2, I2, q2⟩
end
structure It where
  go : Nat → Hp → Prop
  yld : Nat → Hp → V → Hp → Prop
  stop : Nat → Hp → Prop
def FpOk (X : Cx) (pins : List (Addr × Obj)) (H : Hp) (b : Addr) : Prop :=
  H b = none ∧ b ≠ X.env.locals ∧ b ∉ X.fs ∧ (b ∈ X.ex ∨ X.s₀.heap.objs.size ≤ b) ∧ (∀ x c, X.env.cells.lookup x = some c → c ≠ b) ∧ ∀ p ∈ X.pn ++ pins, p.1 ≠ b
theorem Inv.fpOk {X : Cx} {pins : List (Addr × Obj)} {σ : St} {H H' : Hp} {s : Shared} {b : Addr} (I : Inv X pins σ H s) (hb : s.heap.objs.size ≤ b) (hn : H' b = none) : FpOk X pins H' b := by
  refine ⟨hn, Nat.ne_of_gt (Nat.lt_of_lt_of_le I.lt hb), I.nofs hb, .inr (Nat.le_trans I.sz hb), fun x c e z => ?_, fun p hp z => ?_⟩
  · obtain ⟨v, q⟩ := I.cell x c e
    exact absurd (Nat.lt_of_lt_of_le q.lt (by rw [z]; exact hb)) (Nat.lt_irrefl _)
  · exact absurd (Nat.lt_of_lt_of_le (Heap.lt_size (I.pin p hp).1) (by rw [z]; exact hb)) (Nat.lt_irrefl _)
structure Turn (P : Program) (w : World) (K : PySem.W.Frag) (tg : Expr) (J : It) (fp : List Addr) (it : Addr) (tn : Nat → Heap → Prop) : Prop where
  mem : it ∈ fp
  obj : ∀ i h, tn i h → ∀ b ∈ fp, ∃ o, h.get? b = some o ∧ ∀ v, o.data ≠ .cell v
  keep : ∀ i h h', tn i h → (∀ b ∈ fp, ∀ o, h.get? b = some o → h'.get? b = some o) → tn i h'
  item : ∀ (X : Cx), X.prog = P → X.w = w → X.K = K → X.calm = true → ∀ (i : Nat) (pins : List (Addr × Obj)) (s : Shared) (σ : St) (H : Hp) (E : Value → Shared → Prop), Inv X pins σ H s → (∀ b ∈ fp, FpOk X pins H b) → tn i s.heap → J.go i H →
    wpAny (model P w) X.A (pyNext (.ref it)) (fun r s1 => ∃ u, r = some u ∧
      wpAny (model P w) X.A (letOwnedTupleGo tg (.ref it) u) (fun _ s2 => ∃ x H', Inv X pins σ H' s2 ∧ RelV x u ∧ J.yld i H x H' ∧ tn (i + 1) s2.heap ∧ ∀ b ∈ fp, H' b = none) E s1) E s
  done : ∀ (X : Cx), X.prog = P → X.w = w → X.K = K → X.calm = true → ∀ (i : Nat) (pins : List (Addr × Obj)) (s : Shared) (σ : St) (H : Hp) (E : Value → Shared → Prop), Inv X pins σ H s → (∀ b ∈ fp, FpOk X pins H b) → tn i s.heap → J.stop i H →
    wpAny (model P w) X.A (pyNext (.ref it)) (fun r s1 => r = none ∧ Inv X pins σ H s1) E s
  self : ∀ (A : Around) (i : Nat) (s : Shared) (Q : Value → Shared → Prop) (E : Value → Shared → Prop), tn i s.heap → Q (.ref it) s → wpAny (model P w) A (pyIter (.ref it)) Q E s
abbrev TI := St → Hp → (It → Hp → Prop) → Prop
def PIE (X : Cx) (pins : List (Addr × Obj)) (σ : St) (tg : Expr) (R : It → Hp → Prop) (itv : Value) (s2 : Shared) : Prop :=
  ∃ (it : Addr) (fp : List Addr) (tn : Nat → Heap → Prop) (J : It) (H' : Hp), itv = .ref it ∧ Inv X pins σ H' s2 ∧ Turn X.prog X.w X.K tg J fp it tn ∧ tn 0 s2.heap ∧ (∀ b ∈ fp, FpOk X pins H' b) ∧ R J H'
def PI (X : Cx) (tg iter : Expr) (wi : TI) : Prop :=
  ∀ (pins : List (Addr × Obj)) (s : Shared) (σ : St) (H : Hp) (R : It → Hp → Prop), Inv X pins σ H s → wi σ H R →
    wpAny (model X.prog X.w) X.A (eval iter X.env) (fun v s1 => wpAny (model X.prog X.w) X.A (pyIter v) (PIE X pins σ tg R) X.xe s1) X.xe s
theorem go_of {M : Model} {A : Around} {E : Value → Shared → Prop} {s : Shared} {tg : Expr} {it : Addr} {u : Value} {o : Obj} {n : String} {vs : Array Value} {Q : Unit → Shared → Prop} (ho : s.heap.get? it = some o) (hc : o.cls = .type n) (hd : o.data = .fields vs)
    (hn : ["enumerate", "zip", "dict_itemiterator", "dict_reverseitemiterator", "odict_iterator", "itertools.zip_longest", "itertools.pairwise"].contains n = false) (hQ : Q () s) : wpAny M A (letOwnedTupleGo tg (.ref it) u) Q E s := by
  unfold letOwnedTupleGo
  cases tg <;> first
    | exact wpAny_pure hQ
    | (cases u <;> first
        | exact wpAny_pure hQ
        | (refine wpAny_bind (wpAny_load ho ?_)
           rw [hc, hd]
           show wpAny M A (if (["enumerate", "zip", "dict_itemiterator", "dict_reverseitemiterator", "odict_iterator", "itertools.zip_longest", "itertools.pairwise"].contains n && vs[0]? == some (rawInt _)) = true then _ else _) Q E s
           rw [if_neg (by intro h; rw [hn, Bool.false_and] at h; cases h)]
           exact wpAny_pure hQ))
def Itl (K : PySem.W.Frag) (a : Addr) : It :=
  ⟨fun i H => ∃ xs x, SqL K H a xs ∧ xs[i]? = some x, fun i H x H' => H' = H ∧ ∀ xs, SqL K H a xs → xs[i]? = some x, fun i H => ∃ xs, SqL K H a xs ∧ xs.length ≤ i⟩
def Itt (K : PySem.W.Frag) (a : Addr) : It :=
  ⟨fun i H => ∃ xs x, SqT K H a xs ∧ xs[i]? = some x, fun i H x H' => H' = H ∧ ∀ xs, SqT K H a xs → xs[i]? = some x, fun i H => ∃ xs, SqT K H a xs ∧ xs.length ≤ i⟩
def Itr (lo : Int) (n : Nat) : It := ⟨fun i _ => i < n, fun i H x H' => H' = H ∧ x = .int (lo + i), fun i _ => n ≤ i⟩
theorem turn_list {P : Program} {w : World} {K : PySem.W.Frag} {tg : Expr} (a it : Addr) : Turn P w K tg (Itl K a) [it] it (fun i h => h.IsListIter it a i) where
  mem := by simp
  obj := fun i h st b hb => by
    have e : b = it := by simpa using hb
    subst e
    obtain ⟨o, e, c, d⟩ := st
    exact ⟨o, e, fun v z => by rw [d] at z; cases z⟩
  keep := fun i h h' st k => st.at fun o e => k it (by simp) o e
  item := by
    intro X hP hw hK hc i pins s σ H E I hf st hg
    subst hP hw hK
    obtain ⟨xs, x, hq, hx⟩ := hg
    obtain ⟨its, rv, p, hz⟩ := I.list hq
    obtain ⟨u, hu, ru⟩ := rv.get hx
    obtain ⟨f0, f1, f2, f3, f4, f5⟩ := hf it (by simp)
    refine wpAny_pyNext_list_item st p.isList (x := u) (by simpa using hu) fun h' st' sb => ?_
    have I1 : Inv X pins σ H { s with heap := h' } := I.turned (t' := s.toks) (fun b o hb e => (sb.2 b hb).trans e) f0 f1 f3 f4 f5
    obtain ⟨o, e, c, d⟩ := id st'
    exact ⟨u, rfl, go_of (s := { s with heap := h' }) e c d (by decide) ⟨x, H, I1, ru, ⟨rfl, fun ys hy => by rw [I.list_inj hy hq]; exact hx⟩, st', fun b hb => (hf b hb).1⟩⟩
  done := by
    intro X hP hw hK hc i pins s σ H E I hf st hg
    subst hP hw hK
    obtain ⟨xs, hq, hx⟩ := hg
    obtain ⟨its, rv, p, hz⟩ := I.list hq
    obtain ⟨f0, f1, f2, f3, f4, f5⟩ := hf it (by simp)
    have hl := rv.length
    exact wpAny_pyNext_list_end (I.ok.hd hc) st p.isList (by simp; omega) fun h' eb => ⟨rfl, I.turned (t' := s.toks) (fun b o hb e => eb b o hb e) f0 f1 f3 f4 f5⟩
  self := fun _ _ _ _ _ st h => wpAny_pyIter_listiter st h
theorem turn_tuple {P : Program} {w : World} {K : PySem.W.Frag} {tg : Expr} (a it : Addr) : Turn P w K tg (Itt K a) [it] it (fun i h => h.IsTupleIter it a i) where
  mem := by simp
  obj := fun i h st b hb => by
    have e : b = it := by simpa using hb
    subst e
    obtain ⟨o, e, c, d⟩ := st
    exact ⟨o, e, fun v z => by rw [d] at z; cases z⟩
  keep := fun i h h' st k => st.at fun o e => k it (by simp) o e
  item := by
    intro X hP hw hK hc i pins s σ H E I hf st hg
    subst hP hw hK
    obtain ⟨xs, x, hq, hx⟩ := hg
    obtain ⟨its, rv, p, hz⟩ := I.tuple hq
    obtain ⟨u, hu, ru⟩ := rv.get hx
    obtain ⟨f0, f1, f2, f3, f4, f5⟩ := hf it (by simp)
    refine wpAny_pyNext_tuple_item st (show s.heap.IsTuple a its.toArray from p) (x := u) (by simpa using hu) fun h' st' sb => ?_
    have I1 : Inv X pins σ H { s with heap := h' } := I.turned (t' := s.toks) (fun b o hb e => (sb.2 b hb).trans e) f0 f1 f3 f4 f5
    obtain ⟨o, e, c, d⟩ := id st'
    exact ⟨u, rfl, go_of (s := { s with heap := h' }) e c d (by decide) ⟨x, H, I1, ru, ⟨rfl, fun ys hy => by rw [I.tuple_inj hy hq]; exact hx⟩, st', fun b hb => (hf b hb).1⟩⟩
  done := by
    intro X hP hw hK hc i pins s σ H E I hf st hg
    subst hP hw hK
    obtain ⟨xs, hq, hx⟩ := hg
    obtain ⟨its, rv, p, hz⟩ := I.tuple hq
    obtain ⟨f0, f1, f2, f3, f4, f5⟩ := hf it (by simp)
    have hl := rv.length
    exact wpAny_pyNext_tuple_end (I.ok.hd hc) st (show s.heap.IsTuple a its.toArray from p) (by simp; omega) fun h' eb => ⟨rfl, I.turned (t' := s.toks) (fun b o hb e => eb b o hb e) f0 f1 f3 f4 f5⟩
  self := fun _ _ _ _ _ st h => wpAny_pyIter_tupleiter st h
theorem turn_range {P : Program} {w : World} {K : PySem.W.Frag} {tg : Expr} (it : Addr) (lo : Int) (n : Nat) : Turn P w K tg (Itr lo n) [it] it (fun i h => IsRangeIter h it (lo + (i : Nat) * 1) ((n : Int) - (i : Nat)) 1) where
  mem := by simp
  obj := fun i h st b hb => by
    have e : b = it := by simpa using hb
    subst e
    exact ⟨_, st, fun v z => by
      have z' : Data.fields _ = Data.cell v := z
      cases z'⟩
  keep := fun i h h' st k => k it (by simp) _ st
  item := by
    intro X hP hw hK hc i pins s σ H E I hf st hg
    subst hP hw hK
    obtain ⟨f0, f1, f2, f3, f4, f5⟩ := hf it (by simp)
    have W := Walks.range (prog := X.prog) (w := X.w) (I.ok.hd hc) it lo 1 n
    refine W.item i s _ _ hg st fun v h' tk hv st' kk => ?_
    obtain ⟨t, rfl⟩ := hv
    have I1 : Inv X pins σ H { s with heap := h', toks := tk } := I.turned (fun b o hb e => kk b o (by simpa using hb) e) f0 f1 f3 f4 f5
    refine ⟨_, rfl, go_of (s := { s with heap := h', toks := tk }) (n := "range_iterator") st' rfl rfl (by decide) ⟨.int (lo + i), H, I1, ⟨t, ?_⟩, ⟨rfl, rfl⟩, st', fun b hb => (hf b hb).1⟩⟩
    rw [Int.mul_one]
  done := by
    intro X hP hw hK hc i pins s σ H E I hf st hg
    subst hP hw hK
    obtain ⟨f0, f1, f2, f3, f4, f5⟩ := hf it (by simp)
    exact wpAny_pyNext_range_end (I.ok.hd hc) st (by have : n ≤ i := hg; omega) fun h' eb => ⟨rfl, I.turned (t' := s.toks) (fun b o hb e => eb b o hb e) f0 f1 f3 f4 f5⟩
  self := fun _ _ _ _ _ st h => wpAny_pyIter_rangeiter st h
end L2
namespace L2
open PySem PySem.Spec PyProof.Rows
section
variable {X : Cx} {tg : Expr}
def iList (K : PySem.W.Frag) (tl : TE) : TI := fun σ H R => tl σ H fun x H1 => ∃ a, x = .ref a ∧ (∃ xs, SqL K H1 a xs) ∧ R (Itl K a) H1
def iTup (K : PySem.W.Frag) (tl : TE) : TI := fun σ H R => tl σ H fun x H1 => ∃ a, x = .ref a ∧ (∃ xs, SqT K H1 a xs) ∧ R (Itt K a) H1
theorem pi_list {l : Expr} {tl : TE} (hl : PE X l tl) : PI X tg l (iList X.K tl) := by
  intro pins s σ H R I h
  refine thn (hl pins s σ H _ I h) fun v s1 ⟨x, H1, I1, r1, q1⟩ => ?_
  obtain ⟨a, e, ⟨xs, hq⟩, q⟩ := q1
  subst e
  cases r1
  obtain ⟨its, rv, p, hz⟩ := I1.list hq
  refine wpAny_pyIter_list p.isList ?_
  refine ⟨s1.heap.objs.size, [s1.heap.objs.size], _, _, H1, rfl, I1.kept (t' := s1.toks) fun b o e => Heap.get?_push_of_some _ e, turn_list a _, ⟨_, Heap.get?_push_size _ rfl, rfl, rfl⟩, fun b hb => ?_, q⟩
  have e : b = s1.heap.objs.size := by simpa using hb
  subst e
  exact I1.fpOk (Nat.le_refl _) (I1.hok.fresh (Nat.le_refl _))
theorem pi_tup {l : Expr} {tl : TE} (hl : PE X l tl) : PI X tg l (iTup X.K tl) := by
  intro pins s σ H R I h
  refine thn (hl pins s σ H _ I h) fun v s1 ⟨x, H1, I1, r1, q1⟩ => ?_
  obtain ⟨a, e, ⟨xs, hq⟩, q⟩ := q1
  subst e
  cases r1
  obtain ⟨its, rv, p, hz⟩ := I1.tuple hq
  refine wpAny_pyIter_tuple (show s1.heap.IsTuple a its.toArray from p) ?_
  refine ⟨s1.heap.objs.size, [s1.heap.objs.size], _, _, H1, rfl, I1.kept (t' := s1.toks) fun b o e => Heap.get?_push_of_some _ e, turn_tuple a _, ⟨_, Heap.get?_push_size _ rfl, rfl, rfl⟩, fun b hb => ?_, q⟩
  have e : b = s1.heap.objs.size := by simpa using hb
  subst e
  exact I1.fpOk (Nat.le_refl _) (I1.hok.fresh (Nat.le_refl _))
theorem range_it {pins : List (Addr × Obj)} {σ : St} {H : Hp} {s : Shared} {R : It → Hp → Prop} {E : Value → Shared → Prop} {lo hi : Int} {t u v : Tok} {tk : Nat} (I : Inv X pins σ H s) (h1 : -(2 ^ 62) ≤ lo) (h2 : lo < 2 ^ 62) (h3 : -(2 ^ 62) ≤ hi) (h4 : hi < 2 ^ 62)
    (q : R (Itr lo (hi - lo).toNat) H) : wpAny (model X.prog X.w) X.A (pyIter (.ref s.heap.objs.size)) (PIE X pins σ tg R) E { s with heap := s.heap.push { cls := .type "range", data := .fields #[.int lo t, .int hi u, .int 1 v] }, toks := tk } := by
  refine wpAny_pyIter_range (IsRange.new ..) (small_one h1 h2 h3 h4) ?_
  have I1 : Inv X pins σ H { s with heap := s.heap.push { cls := .type "range", data := .fields #[.int lo t, .int hi u, .int 1 v] }, toks := tk } := I.kept fun b o e => Heap.get?_push_of_some _ e
  refine ⟨(s.heap.push { cls := .type "range", data := .fields #[.int lo t, .int hi u, .int 1 v] }).objs.size, [(s.heap.push { cls := .type "range", data := .fields #[.int lo t, .int hi u, .int 1 v] }).objs.size], _, _, H, rfl,
    I1.kept (t' := tk) fun b o e => Heap.get?_push_of_some _ e, turn_range _ lo (hi - lo).toNat, ?_, fun b hb => ?_, q⟩
  · have e1 : lo + ((0 : Nat) : Int) * 1 = lo := by simp
    have e2 : (((hi - lo).toNat : Nat) : Int) - ((0 : Nat) : Int) = Builtin.Range.rangeSize lo hi 1 := by rw [rangeSize_one]; split <;> omega
    show IsRangeIter _ _ (lo + ((0 : Nat) : Int) * 1) ((((hi - lo).toNat : Nat) : Int) - ((0 : Nat) : Int)) 1
    rw [e1, e2]
    exact Heap.get?_push_size _ rfl
  · have e : b = (s.heap.push { cls := .type "range", data := .fields #[.int lo t, .int hi u, .int 1 v] }).objs.size := by simpa using hb
    subst e
    exact I1.fpOk (Nat.le_refl _) (I1.hok.fresh (Nat.le_refl _))
def iRng1 (ta : TA) : TI := fun σ H R => ta σ H fun vs H1 => ∃ j : Int, vs = [.int j] ∧ -(2 ^ 62) ≤ j ∧ j < 2 ^ 62 ∧ R (Itr 0 j.toNat) H1
theorem pi_range1 {a : Expr} {ta : TA} {p pos : Pos} (hg : Gl X "range") (hm : X.mg "range" = none) (ha : PA X [a] ta) (hs : starEach [a] X.env = [(false, eval a X.env)] := by rfl) : PI X tg (.Call (.Name "range" p) [a] [] pos) (iRng1 ta) := by
  intro pins s σ H R I h
  refine Call_ (ld_blt I hg hm boot_range (PyProof.Rows.callWith_type1 (thn (ha pos pins s σ H _ I h) fun us s1 ⟨vs, H1, I1, r1, q1⟩ => ?_) hs rfl))
  obtain ⟨j, e, q1, q2, q⟩ := q1
  subst e
  cases r1 with
  | cons r rr =>
    cases rr
    obtain ⟨t, rfl⟩ := r
    exact call_range_1 (range_it I1 (by omega) (by omega) q1 q2 (by simpa using q))
def tFor (wi : TI) (g : TG) (tb : TS) : TS := fun D σ H => wi σ H fun J H1 => ∃ W : Nat → Nat → St → Hp → Prop, (∃ m, W 0 m σ H1) ∧ ∀ i m σ H, W i m σ H →
  (J.stop i H ∧ D.nx σ H) ∨ (J.go i H ∧ ∃ N : St → Hp → Prop, (∀ σ' H', N σ' H' → ∃ m', m' < m ∧ W (i + 1) m' σ' H') ∧ ∀ x H', J.yld i H x H' → g x σ H' fun σ2 H2 => tb { D with nx := N, ct := N, bk := D.nx } σ2 H2)
def pinsAt (fp : List Addr) (h : Heap) : List (Addr × Obj) := fp.filterMap fun b => (h.get? b).map fun o => (b, o)
theorem mem_pinsAt {fp : List Addr} {h : Heap} {b : Addr} {o : Obj} (hb : b ∈ fp) (e : h.get? b = some o) : (b, o) ∈ pinsAt fp h := List.mem_filterMap.mpr ⟨b, hb, by rw [e]; rfl⟩
theorem of_pinsAt {fp : List Addr} {h : Heap} {p : Addr × Obj} (hp : p ∈ pinsAt fp h) : p.1 ∈ fp ∧ h.get? p.1 = some p.2 := by
  obtain ⟨b, hb, e⟩ := List.mem_filterMap.mp hp
  cases q : h.get? b with
  | none => rw [q] at e; cases e
  | some o =>
    rw [q] at e
    have e' : (b, o) = p := Option.some.inj e
    subst e'
    exact ⟨hb, q⟩
theorem Inv.pinned {pins : List (Addr × Obj)} {σ : St} {H : Hp} {s : Shared} {fp : List Addr} (I : Inv X pins σ H s) (hf : ∀ b ∈ fp, FpOk X pins H b) (ho : ∀ b ∈ fp, ∃ o, s.heap.get? b = some o ∧ ∀ v, o.data ≠ .cell v) : Inv X (pins ++ pinsAt fp s.heap) σ H s :=
  I.pins_of fun p hp => (List.mem_append.mp hp).elim (fun z => I.pin p (List.mem_append_right _ z)) fun z => by
    obtain ⟨hb, e⟩ := of_pinsAt z
    obtain ⟨f0, f1, f2, _⟩ := hf p.1 hb
    obtain ⟨o, e', d⟩ := ho p.1 hb
    rw [e] at e'; cases e'
    exact ⟨e, f0, f1, f2, d⟩
theorem Inv.unpinned {pins pl : List (Addr × Obj)} {σ : St} {H : Hp} {s : Shared} (I : Inv X (pins ++ pl) σ H s) : Inv X pins σ H s := I.pins_of fun p hp => I.pin p (List.mem_append_right _ (List.mem_append_left _ hp))
theorem ps_for {iter : Expr} {body : List Stmt} {wi : TI} {g : TG} {tb : TS} {pos : Pos} (hp : PassesOwn (model X.prog X.w) X.A X.env X.xe) (hc : X.calm = true) (hi : PI X tg iter wi) (hg : PG X tg g) (hb : PSs X body tb)
    (hs : ∀ x, foldedSetIterable iter X.env x = pure x := by intro _; rfl) : PS X (.For tg iter body [] pos) (tFor wi g tb) := by
  intro pins s σ H D I h
  refine wpAny_For (thn (hi pins s σ H _ I h) fun v s1 h1 => thn h1 fun itv s2 h2 => ?_) hs
  obtain ⟨it, fp, tn, J, H2, e, I2, T, st2, f2, W, ⟨m0, w0⟩, turn⟩ := h2
  subst e
  have stat : ∀ {H' : Hp}, (∀ b ∈ fp, H' b = none) → ∀ b ∈ fp, FpOk X pins H' b := fun hn b hb => ⟨hn b hb, (f2 b hb).2⟩
  refine codeAny_forLoop_any (fun n s' => ∃ i σ' H', Inv X pins σ' H' s' ∧ tn i s'.heap ∧ (∀ b ∈ fp, H' b = none) ∧ W i n σ' H') ?_ m0 ⟨0, σ, H2, I2, st2, fun b hb => (f2 b hb).1, w0⟩
  rintro n s3 ⟨i, σ3, H3, I3, st3, fr3, w3⟩
  rcases turn i n σ3 H3 w3 with ⟨stop, qn⟩ | ⟨go, N, hN, step⟩
  · refine wpAny_passesOwn hp (thn (T.done X rfl rfl rfl hc i pins s3 σ3 H3 X.xe I3 (stat fr3) st3 stop) fun r s4 ⟨hr, I4⟩ => ?_)
    subst hr
    exact wpAny_execs_nil ⟨σ3, H3, I4, qn⟩
  · refine wpAny_passesOwn hp (thn (T.item X rfl rfl rfl hc i pins s3 σ3 H3 X.xe I3 (stat fr3) st3 go) fun r s4 ⟨u, hr, h4⟩ => ?_)
    subst hr
    refine wpAny_passesOwn hp (thn h4 fun _ s5 ⟨x, H5, I5, r5, y5, st5, fr5⟩ => ?_)
    have I5' := I5.pinned (stat fr5) (T.obj _ _ st5)
    refine wpAny_passesOwn hp (thn (hg _ s5 σ3 H5 x u _ I5' r5 (step x H5 y5)) fun _ s6 ⟨σ6, H6, I6, q6⟩ => ?_)
    refine wpAny_passesOwn hp (thn (hb _ s6 σ6 H6 _ I6 q6) fun f s7 q7 => ?_)
    have again : ∀ {σ7 : St} {H7 : Hp}, Inv X (pins ++ pinsAt fp s5.heap) σ7 H7 s7 → N σ7 H7 → ∃ m, m < n ∧ ∃ i σ' H', Inv X pins σ' H' s7 ∧ tn i s7.heap ∧ (∀ b ∈ fp, H' b = none) ∧ W i m σ' H' := fun {σ7 H7} I7 n7 => by
      obtain ⟨m', hm, w7⟩ := hN σ7 H7 n7
      refine ⟨m', hm, i + 1, σ7, H7, I7.unpinned, T.keep _ _ _ st5 fun b hb o e => (I7.pin (b, o) (List.mem_append_right _ (List.mem_append_right _ (mem_pinsAt hb e)))).1, fun b hb => ?_, w7⟩
      obtain ⟨o, e, d⟩ := T.obj _ _ st5 b hb
      exact (I7.pin (b, o) (List.mem_append_right _ (List.mem_append_right _ (mem_pinsAt hb e)))).2.1
    cases f with
    | next => obtain ⟨σ7, H7, I7, n7⟩ := q7; exact again I7 n7
    | cont => obtain ⟨σ7, H7, I7, n7⟩ := q7; exact again I7 n7
    | brk => obtain ⟨σ7, H7, I7, q7⟩ := q7; exact ⟨σ7, H7, I7.unpinned, q7⟩
    | ret v => obtain ⟨x7, σ7, H7, I7, r7, q7⟩ := q7; exact ⟨x7, σ7, H7, I7.unpinned, r7, q7⟩
end
theorem for_list {K : PySem.W.Frag} {a : Addr} {xs : List V} {g : TG} {tb : TS} {D : Ends} {σ : St} {H : Hp} (Pv : Nat → St → Hp → Prop) (h0 : Pv 0 σ H) (hl : ∀ i σ H, i ≤ xs.length → Pv i σ H → SqL K H a xs)
    (hs : ∀ i x σ H, xs[i]? = some x → Pv i σ H → g x σ H fun σ2 H2 => tb { D with nx := Pv (i + 1), ct := Pv (i + 1), bk := D.nx } σ2 H2) (hd : ∀ σ H, Pv xs.length σ H → D.nx σ H) :
    ∃ W : Nat → Nat → St → Hp → Prop, (∃ m, W 0 m σ H) ∧ ∀ i m σ H, W i m σ H →
      ((Itl K a).stop i H ∧ D.nx σ H) ∨ ((Itl K a).go i H ∧ ∃ N : St → Hp → Prop, (∀ σ' H', N σ' H' → ∃ m', m' < m ∧ W (i + 1) m' σ' H') ∧ ∀ x H', (Itl K a).yld i H x H' → g x σ H' fun σ2 H2 => tb { D with nx := N, ct := N, bk := D.nx } σ2 H2) := by
  refine ⟨fun i m σ H => m = xs.length - i ∧ i ≤ xs.length ∧ Pv i σ H, ⟨xs.length, by simp, Nat.zero_le _, h0⟩, ?_⟩
  rintro i m σ H ⟨rfl, hi, p⟩
  have q := hl i σ H hi p
  by_cases hlt : i < xs.length
  · refine .inr ⟨⟨xs, xs[i], q, by simp [hlt]⟩, Pv (i + 1), fun σ' H' p' => ⟨xs.length - (i + 1), by omega, rfl, hlt, p'⟩, fun x H' y => ?_⟩
    obtain ⟨e, y⟩ := y
    subst e
    exact hs i x σ _ (y xs q) p
  · have e : i = xs.length := by omega
    subst e
    exact .inl ⟨⟨xs, q, Nat.le_refl _⟩, hd σ H p⟩
theorem for_range {lo : Int} {n : Nat} {g : TG} {tb : TS} {D : Ends} {σ : St} {H : Hp} (Pv : Nat → St → Hp → Prop) (h0 : Pv 0 σ H)
    (hs : ∀ i σ H, i < n → Pv i σ H → g (.int (lo + i)) σ H fun σ2 H2 => tb { D with nx := Pv (i + 1), ct := Pv (i + 1), bk := D.nx } σ2 H2) (hd : ∀ σ H, Pv n σ H → D.nx σ H) :
    ∃ W : Nat → Nat → St → Hp → Prop, (∃ m, W 0 m σ H) ∧ ∀ i m σ H, W i m σ H →
      ((Itr lo n).stop i H ∧ D.nx σ H) ∨ ((Itr lo n).go i H ∧ ∃ N : St → Hp → Prop, (∀ σ' H', N σ' H' → ∃ m', m' < m ∧ W (i + 1) m' σ' H') ∧ ∀ x H', (Itr lo n).yld i H x H' → g x σ H' fun σ2 H2 => tb { D with nx := N, ct := N, bk := D.nx } σ2 H2) := by
  refine ⟨fun i m σ H => m = n - i ∧ i ≤ n ∧ Pv i σ H, ⟨n, by simp, Nat.zero_le _, h0⟩, ?_⟩
  rintro i m σ H ⟨rfl, hi, p⟩
  by_cases hlt : i < n
  · refine .inr ⟨hlt, Pv (i + 1), fun σ' H' p' => ⟨n - (i + 1), by omega, rfl, hlt, p'⟩, fun x H' y => ?_⟩
    obtain ⟨e, y⟩ := y
    subst e y
    exact hs i σ _ hlt p
  · have e : i = n := by omega
    subst e
    exact .inl ⟨Nat.le_refl _, hd σ H p⟩
end L2
namespace L2
open PySem PySem.Spec PyProof.Rows
abbrev R2 := V → V → Hp → VK → Prop
def OpR (X : Cx) (f : Value → Value → Sem Value) (r : R2) : Prop :=
  ∀ (pins : List (Addr × Obj)) (s : Shared) (σ : St) (H : Hp) (x y : V) (v u : Value) (Q : VK), Inv X pins σ H s → RelV x v → RelV y u → r x y H Q →
    wpAny (model X.prog X.w) X.A (f v u) (EP X pins σ Q) X.xe s
def UnR (X : Cx) (f : Value → Sem Value) (r : V → Hp → VK → Prop) : Prop :=
  ∀ (pins : List (Addr × Obj)) (s : Shared) (σ : St) (H : Hp) (x : V) (v : Value) (Q : VK), Inv X pins σ H s → RelV x v → r x H Q →
    wpAny (model X.prog X.w) X.A (f v) (EP X pins σ Q) X.xe s
def CallR (X : Cx) (f : Value) (r : List V → Hp → VK → Prop) : Prop :=
  ∀ (pins : List (Addr × Obj)) (s : Shared) (σ : St) (H : Hp) (xs : List V) (us : List Value) (Q : VK), Inv X pins σ H s → Vals xs us → r xs H Q →
    wpAny (model X.prog X.w) X.A (call f us) (EP X pins σ Q) X.xe s
def tOp (r : R2) (ta tb : TE) : TE := fun σ H Q => ta σ H fun x H1 => tb σ H1 fun y H2 => r x y H2 Q
def tUn (r : V → Hp → VK → Prop) (ta : TE) : TE := fun σ H Q => ta σ H fun x H1 => r x H1 Q
def rI (C : Int → Int → Prop) (g : Int → Int → V) : R2 := fun x y H Q => ∃ i j, x = .int i ∧ y = .int j ∧ C i j ∧ Q (g i j) H
def rI0 (g : Int → Int → V) : R2 := fun x y H Q => ∃ i j, x = .int i ∧ y = .int j ∧ Q (g i j) H
def rU (g : Int → V) : V → Hp → VK → Prop := fun x H Q => ∃ i, x = .int i ∧ Q (g i) H
section
variable {X : Cx} {a b c : Expr} {ta tb tc : TE} {pos : Pos}
theorem binT (ha : PE X a ta) (hb : PE X b tb) {pins : List (Addr × Obj)} {s : Shared} {σ : St} {H : Hp} {R : V → V → Hp → Prop} (I : Inv X pins σ H s)
    (h : ta σ H fun x H1 => tb σ H1 fun y H2 => R x y H2) {Q : Value → Shared → Prop} {f : Value → Value → Sem Value}
    (hf : ∀ v u s2 x y H2, Inv X pins σ H2 s2 → RelV x v → RelV y u → R x y H2 → wpAny (model X.prog X.w) X.A (f v u) Q X.xe s2) :
    wpAny (model X.prog X.w) X.A (eval a X.env) (fun v s₁ => wpAny (model X.prog X.w) X.A (eval b X.env) (fun u s₂ => wpAny (model X.prog X.w) X.A (f v u) Q X.xe s₂) X.xe s₁) X.xe s := by
  refine thn (ha pins s σ H _ I h) fun v s1 ⟨x, H1, I1, r1, q1⟩ => ?_
  refine thn (hb pins s1 σ H1 _ I1 q1) fun u s2 ⟨y, H2, I2, r2, q2⟩ => ?_
  exact hf v u s2 x y H2 I2 r1 r2 q2
theorem pe_op {op : Operator} {r : R2} (ho : OpR X (binaryOp op) r) (ha : PE X a ta) (hb : PE X b tb) : PE X (.BinOp a op b pos) (tOp r ta tb) := by
  intro pins s σ H Q I h
  exact wpAny_BinOp (binT ha hb I h fun v u s2 x y H2 I2 rx ry q => ho pins s2 σ H2 x y v u Q I2 rx ry q)
theorem pe_un {op : UnaryOp} {r : V → Hp → VK → Prop} (ho : UnR X (unaryOp op) r) (ha : PE X a ta) : PE X (.UnaryOp op a pos) (tUn r ta) := by
  intro pins s σ H Q I h
  exact UnaryOp_ (thn (ha pins s σ H _ I h) fun v s1 ⟨x, H1, I1, r1, q1⟩ => ho pins s1 σ H1 x v Q I1 r1 q1)
theorem opI {f : Value → Value → Sem Value} {C : Int → Int → Prop} {g : Int → Int → Int}
    (rule : ∀ (i j : Int) (t u : Tok) (s : Shared) (Q : Value → Shared → Prop) (E : Value → Shared → Prop), C i j → Q (.int (g i j) s.toks) { s with toks := s.toks + 1 } → wpAny (model X.prog X.w) X.A (f (.int i t) (.int j u)) Q E s) :
    OpR X f (rI C fun i j => .int (g i j)) := by
  intro pins s σ H x y v u Q I rx ry h
  obtain ⟨i, j, rfl, rfl, hc, q⟩ := h
  obtain ⟨t, rfl⟩ := rx
  obtain ⟨t', rfl⟩ := ry
  exact rule i j t t' s _ _ hc ⟨.int (g i j), H, I.tok _, ⟨_, rfl⟩, q⟩
theorem opI0 {f : Value → Value → Sem Value} {g : Int → Int → Int}
    (rule : ∀ (i j : Int) (t u : Tok) (s : Shared) (Q : Value → Shared → Prop) (E : Value → Shared → Prop), Q (.int (g i j) s.toks) { s with toks := s.toks + 1 } → wpAny (model X.prog X.w) X.A (f (.int i t) (.int j u)) Q E s) :
    OpR X f (rI0 fun i j => .int (g i j)) := by
  intro pins s σ H x y v u Q I rx ry h
  obtain ⟨i, j, rfl, rfl, q⟩ := h
  obtain ⟨t, rfl⟩ := rx
  obtain ⟨t', rfl⟩ := ry
  exact rule i j t t' s _ _ ⟨.int (g i j), H, I.tok _, ⟨_, rfl⟩, q⟩
theorem opB0 {f : Value → Value → Sem Value} {g : Int → Int → Bool}
    (rule : ∀ (i j : Int) (t u : Tok) (s : Shared) (Q : Value → Shared → Prop) (E : Value → Shared → Prop), Q (.bool (g i j)) s → wpAny (model X.prog X.w) X.A (f (.int i t) (.int j u)) Q E s) :
    OpR X f (rI0 fun i j => .bl (g i j)) := by
  intro pins s σ H x y v u Q I rx ry h
  obtain ⟨i, j, rfl, rfl, q⟩ := h
  obtain ⟨t, rfl⟩ := rx
  obtain ⟨t', rfl⟩ := ry
  exact rule i j t t' s _ _ ⟨.bl (g i j), H, I, rfl, q⟩
theorem op_add : OpR X (binaryOp .Add) (rI0 fun i j => .int (i + j)) := opI0 fun _ _ _ _ _ _ _ q => add_int q
theorem op_sub : OpR X (binaryOp .Sub) (rI0 fun i j => .int (i - j)) := opI0 fun _ _ _ _ _ _ _ q => sub_int q
theorem op_mod : OpR X (binaryOp .Mod) (rI (fun _ j => 0 < j) fun i j => .int (i % j)) := opI fun i j _ _ _ _ _ hc q => by
  have h1 : (0 : Int) < j := hc
  exact mod_int' (by omega) (by rw [Int.fmod_eq_emod_of_nonneg i (by omega)]; exact q)
theorem unI {f : Value → Sem Value} {g : Int → Int}
    (rule : ∀ (i : Int) (t : Tok) (s : Shared) (Q : Value → Shared → Prop) (E : Value → Shared → Prop), Q (.int (g i) s.toks) { s with toks := s.toks + 1 } → wpAny (model X.prog X.w) X.A (f (.int i t)) Q E s) :
    UnR X f (rU fun i => .int (g i)) := by
  intro pins s σ H x v Q I rx h
  obtain ⟨i, rfl, q⟩ := h
  obtain ⟨t, rfl⟩ := rx
  exact rule i t s _ _ ⟨.int (g i), H, I.tok _, ⟨_, rfl⟩, q⟩
theorem un_neg : UnR X (unaryOp .USub) (rU fun i => .int (-i)) := unI fun _ _ _ _ _ q => neg_int q
end
def scal : V → V → Bool
  | .non, .non => true | .non, .int _ => true | .int _, .non => true | .non, .bl _ => true | .bl _, .non => true | .non, .str _ => true | .str _, .non => true
  | .int _, .int _ => true | .bl _, .bl _ => true | .str _, .str _ => true | .byt _, .byt _ => true
  | .int _, .str _ => true | .str _, .int _ => true | .bl _, .str _ => true | .str _, .bl _ => true
  | _, _ => false
def rEq : R2 := fun x y H Q => scal x y = true ∧ Q (.bl (decide (x = y))) H
def rNe : R2 := fun x y H Q => scal x y = true ∧ Q (.bl (!decide (x = y))) H
theorem dec_int {i j : Int} : decide (V.int i = V.int j) = (i == j) := by
  rw [Bool.eq_iff_iff]
  simp
theorem dec_bl {i j : Bool} : decide (V.bl i = V.bl j) = (i == j) := by
  rw [Bool.eq_iff_iff]
  simp
theorem dec_str {i j : Str} : decide (V.str i = V.str j) = (i == j) := by
  rw [Bool.eq_iff_iff]
  simp
theorem dec_byt {i j : Array UInt8} : decide (V.byt i = V.byt j) = (i.toList == j.toList) := by
  rw [Bool.eq_iff_iff]
  cases i
  cases j
  simp
section
variable {X : Cx} {a b c : Expr} {ta tb tc : TE} {pos : Pos}
theorem fin_bl {pins : List (Addr × Obj)} {σ : St} {H : Hp} {s : Shared} {Q : VK} {k k' : Bool} (I : Inv X pins σ H s) (q : Q (.bl k) H) (e : k = k') : EP X pins σ Q (.bool k') s := by
  subst e
  exact ⟨.bl k, H, I, rfl, q⟩
theorem op_eq : OpR X (compareOp .Eq) rEq := by
  intro pins s σ H x y v u Q I rx ry h
  obtain ⟨hs, q⟩ := h
  cases x with
  | non =>
    cases rx
    cases y with
    | non => cases ry; exact PySem.EqNone.eq_none_none (fin_bl I q (by simp))
    | bl j => cases ry; exact PySem.EqNone.eq_none_bool (fin_bl I q (by simp))
    | int j => obtain ⟨t', rfl⟩ := ry; exact PySem.EqNone.eq_none_int (fin_bl I q (by simp))
    | str j => obtain ⟨t', rfl⟩ := ry; exact PySem.EqNone.eq_none_str (fin_bl I q (by simp))
    | _ => exact absurd (show false = true from hs) Bool.false_ne_true
  | bl i =>
    cases rx
    cases y with
    | non => cases ry; exact PySem.EqNone.eq_bool_none (fin_bl I q (by simp))
    | bl j => cases ry; exact eq_bool (fin_bl I q dec_bl)
    | str j => obtain ⟨t', rfl⟩ := ry; exact PySem.EqMixed.eq_bool_str (fin_bl I q (by simp))
    | _ => exact absurd (show false = true from hs) Bool.false_ne_true
  | int i =>
    obtain ⟨t, rfl⟩ := rx
    cases y with
    | non => cases ry; exact PySem.EqNone.eq_int_none (fin_bl I q (by simp))
    | int j => obtain ⟨t', rfl⟩ := ry; exact eq_int (fin_bl I q dec_int)
    | str j => obtain ⟨t', rfl⟩ := ry; exact PySem.EqMixed.eq_int_str (fin_bl I q (by simp))
    | _ => exact absurd (show false = true from hs) Bool.false_ne_true
  | str i =>
    obtain ⟨t, rfl⟩ := rx
    cases y with
    | non => cases ry; exact PySem.EqNone.eq_str_none (fin_bl I q (by simp))
    | bl j => cases ry; exact PySem.EqMixed.eq_str_bool (fin_bl I q (by simp))
    | int j => obtain ⟨t', rfl⟩ := ry; exact PySem.EqMixed.eq_str_int (fin_bl I q (by simp))
    | str j => obtain ⟨t', rfl⟩ := ry; exact eq_str (fin_bl I q dec_str)
    | _ => exact absurd (show false = true from hs) Bool.false_ne_true
  | byt i =>
    obtain ⟨t, rfl⟩ := rx
    cases y with
    | byt j => obtain ⟨t', rfl⟩ := ry; exact PySem.W.eq_bytes (fin_bl I q dec_byt)
    | _ => exact absurd (show false = true from hs) Bool.false_ne_true
  | _ => cases y <;> exact absurd (show false = true from hs) Bool.false_ne_true
theorem op_ne : OpR X (compareOp .NotEq) rNe := by
  intro pins s σ H x y v u Q I rx ry h
  obtain ⟨hs, q⟩ := h
  cases x with
  | non =>
    cases rx
    cases y with
    | non => cases ry; exact PySem.EqNone.ne_none_none (fin_bl I q (by simp))
    | bl j => cases ry; exact PySem.EqNone.ne_none_bool (fin_bl I q (by simp))
    | int j => obtain ⟨t', rfl⟩ := ry; exact PySem.EqNone.ne_none_int (fin_bl I q (by simp))
    | str j => obtain ⟨t', rfl⟩ := ry; exact PySem.EqNone.ne_none_str (fin_bl I q (by simp))
    | _ => exact absurd (show false = true from hs) Bool.false_ne_true
  | bl i =>
    cases rx
    cases y with
    | non => cases ry; exact PySem.EqNone.ne_bool_none (fin_bl I q (by simp))
    | bl j => cases ry; exact ne_bool (fin_bl I q (congrArg not dec_bl))
    | str j => obtain ⟨t', rfl⟩ := ry; exact PySem.EqMixed.ne_bool_str (fin_bl I q (by simp))
    | _ => exact absurd (show false = true from hs) Bool.false_ne_true
  | int i =>
    obtain ⟨t, rfl⟩ := rx
    cases y with
    | non => cases ry; exact PySem.EqNone.ne_int_none (fin_bl I q (by simp))
    | int j => obtain ⟨t', rfl⟩ := ry; exact ne_int (fin_bl I q (congrArg not dec_int))
    | str j => obtain ⟨t', rfl⟩ := ry; exact PySem.EqMixed.ne_int_str (fin_bl I q (by simp))
    | _ => exact absurd (show false = true from hs) Bool.false_ne_true
  | str i =>
    obtain ⟨t, rfl⟩ := rx
    cases y with
    | non => cases ry; exact PySem.EqNone.ne_str_none (fin_bl I q (by simp))
    | bl j => cases ry; exact PySem.EqMixed.ne_str_bool (fin_bl I q (by simp))
    | int j => obtain ⟨t', rfl⟩ := ry; exact PySem.EqMixed.ne_str_int (fin_bl I q (by simp))
    | str j => obtain ⟨t', rfl⟩ := ry; exact ne_str (fin_bl I q (congrArg not dec_str))
    | _ => exact absurd (show false = true from hs) Bool.false_ne_true
  | byt i =>
    obtain ⟨t, rfl⟩ := rx
    cases y with
    | byt j => obtain ⟨t', rfl⟩ := ry; exact PySem.W.ne_bytes (fin_bl I q (congrArg not dec_byt))
    | _ => exact absurd (show false = true from hs) Bool.false_ne_true
  | _ => cases y <;> exact absurd (show false = true from hs) Bool.false_ne_true
theorem op_lt : OpR X (compareOp .Lt) (rI0 fun i j => .bl (decide (i < j))) := opB0 fun _ _ _ _ _ _ _ q => lt_int q
theorem op_le : OpR X (compareOp .LtE) (rI0 fun i j => .bl (decide (i ≤ j))) := opB0 fun _ _ _ _ _ _ _ q => le_int q
theorem op_gt : OpR X (compareOp .Gt) (rI0 fun i j => .bl (decide (j < i))) := opB0 fun _ _ _ _ _ _ _ q => gt_int q
theorem op_ge : OpR X (compareOp .GtE) (rI0 fun i j => .bl (decide (j ≤ i))) := opB0 fun _ _ _ _ _ _ _ q => ge_int q
theorem nomark (b : Expr) {op : CmpOp} (h : op ≠ .In := by decide) (h2 : op ≠ .NotIn := by decide) : behindInMarks op b = false := by
  have e1 : (op == CmpOp.In) = false := by cases op <;> first | rfl | exact absurd rfl h
  have e2 : (op == CmpOp.NotIn) = false := by cases op <;> first | rfl | exact absurd rfl h2
  cases b <;> simp [behindInMarks, e1, e2]
theorem pe_cmpR {op : CmpOp} {r : R2} (ho : OpR X (compareOp op) r) (ha : PE X a ta) (hb : PE X b tb) (hm : behindInMarks op b = false) : PE X (.Compare a [op] [b] pos) (tOp r ta tb) := by
  intro pins s σ H Q I h
  exact wpAny_Compare1 (binT ha hb I h fun v u s2 x y H2 I2 rx ry q => ho pins s2 σ H2 x y v u Q I2 rx ry q) hm
def tTest (t : TE) : TT := fun σ H Q => t σ H fun x H' => ∃ k, x = .bl k ∧ Q k H'
theorem pt_cmpR {op : CmpOp} {r : R2} (ho : OpR X (compareOp op) r) (ha : PE X a ta) (hb : PE X b tb) (hm : behindInMarks op b = false) : PT X (.Compare a [op] [b] pos) (tTest (tOp r ta tb)) := by
  intro pins s σ H Q I h
  refine wpAny_isTrue_Compare1 (thn (ha pins s σ H _ I h) fun v s1 ⟨x, H1, I1, r1, q1⟩ => thn (hb pins s1 σ H1 _ I1 q1) fun u s2 ⟨y, H2, I2, r2, q2⟩ =>
    thn (ho pins s2 σ H2 x y v u _ I2 r1 r2 q2) fun c s3 ⟨z, H3, I3, r3, k, e, q3⟩ => ?_) hm
  subst e
  cases r3
  exact wpAny_truthy_bool ⟨H3, I3, q3⟩
def tChain (r r' : R2) (ta tb tc : TE) : TE := fun σ H Q => ta σ H fun x H1 => tb σ H1 fun y H2 => r x y H2 fun z H3 => ∃ k, z = .bl k ∧
  (if k = true then tc σ H3 fun w' H4 => r' y w' H4 Q else Q (.bl false) H3)
theorem pe_chain {op op' : CmpOp} {r r' : R2} (ho : OpR X (compareOp op) r) (ho' : OpR X (compareOp op') r') (ha : PE X a ta) (hb : PE X b tb) (hc : PE X c tc)
    (hm : lastMarks [op, op'] [b, c] = false := by with_unfolding_all rfl) : PE X (.Compare a [op, op'] [b, c] pos) (tChain r r' ta tb tc) := by
  intro pins s σ H Q I h
  refine Compare_chain (thn (ha pins s σ H _ I h) fun v s1 ⟨x, H1, I1, r1, q1⟩ => chain_link (thn (hb pins s1 σ H1 _ I1 q1) fun u s2 ⟨y, H2, I2, r2, q2⟩ =>
    thn (ho pins s2 σ H2 x y v u _ I2 r1 r2 q2) fun d s3 ⟨z, H3, I3, r3, k, e, q3⟩ => ?_)) hm
  subst e
  cases r3
  refine wpAny_truthy_bool ?_
  cases k with
  | false => exact ite_ff ⟨.bl false, H3, I3, rfl, q3⟩
  | true => exact ite_tt (chain_last (thn (hc pins s3 σ H3 _ I3 q3) fun w' s4 ⟨z', H4, I4, r4, q4⟩ => ho' pins s4 σ H4 y z' u w' Q I4 r2 r4 q4))
theorem line63 : (sizeLine : Nat) < 2 ^ 63 := by rw [sizeLine_eq]; decide
theorem vals1 {x : V} {us : List Value} (r : Vals [x] us) : ∃ u, us = [u] ∧ RelV x u := by
  cases r with
  | cons r1 r2 => cases r2; exact ⟨_, rfl, r1⟩
theorem vals2 {x y : V} {us : List Value} (r : Vals [x, y] us) : ∃ u w', us = [u, w'] ∧ RelV x u ∧ RelV y w' := by
  cases r with
  | cons r1 r2 =>
    cases r2 with
    | cons r3 r4 => cases r4; exact ⟨_, _, rfl, r1, r3⟩
theorem call_abs : CallR X (.builtin "abs") (fun xs H Q => ∃ i, xs = [.int i] ∧ Q (.int (if i < 0 then -i else i)) H) := by
  intro pins s σ H xs us Q I r h
  obtain ⟨i, rfl, q⟩ := h
  obtain ⟨u, rfl, t, rfl⟩ := vals1 r
  exact call_abs_int fun u tk => ⟨.int (if i < 0 then -i else i), H, I.tok _, ⟨_, rfl⟩, q⟩
theorem call_max2 (hc : X.calm = true) : CallR X (.builtin "max") (fun xs H Q => ∃ i j, xs = [.int i, .int j] ∧ Q (.int (if j > i then j else i)) H) := by
  intro pins s σ H xs us Q I r h
  obtain ⟨i, j, rfl, q⟩ := h
  obtain ⟨u, w', rfl, ⟨t, rfl⟩, ⟨t', rfl⟩⟩ := vals2 r
  refine max_two_ints (I.ok.hd hc) fun h' tk k => ⟨_, H, I.kept k, ?_, q⟩
  by_cases hj : j > i
  · rw [if_pos hj, if_pos hj]; exact ⟨_, rfl⟩
  · rw [if_neg hj, if_neg hj]; exact ⟨_, rfl⟩
theorem call_min2 (hc : X.calm = true) : CallR X (.builtin "min") (fun xs H Q => ∃ i j, xs = [.int i, .int j] ∧ Q (.int (if j < i then j else i)) H) := by
  intro pins s σ H xs us Q I r h
  obtain ⟨i, j, rfl, q⟩ := h
  obtain ⟨u, w', rfl, ⟨t, rfl⟩, ⟨t', rfl⟩⟩ := vals2 r
  refine min_two_ints (I.ok.hd hc) fun h' tk k => ⟨_, H, I.kept k, ?_, q⟩
  by_cases hj : j < i
  · rw [if_pos hj, if_pos hj]; exact ⟨_, rfl⟩
  · rw [if_neg hj, if_neg hj]; exact ⟨_, rfl⟩
def LenV (K : PySem.W.Frag) (x : V) (H : Hp) (n : Nat) : Prop :=
  match x with
  | .str y => y.length ≤ sizeLine ∧ n = y.length
  | .byt y => y.size ≤ sizeLine ∧ n = y.size
  | .ref p => (∃ xs, SqL K H p xs ∧ n = xs.length) ∨ ∃ xs, SqT K H p xs ∧ n = xs.length
  | _ => False
theorem call_len : CallR X (.builtin "len") (fun xs H Q => ∃ x n, xs = [x] ∧ LenV X.K x H n ∧ Q (.int n) H) := by
  intro pins s σ H xs us Q I r h
  obtain ⟨x, n, rfl, e, q⟩ := h
  obtain ⟨u, rfl, rx⟩ := vals1 r
  have hl := line63
  have hs : sizeLine = 16777216 := sizeLine_eq
  cases x with
  | str y =>
    obtain ⟨t, rfl⟩ := rx
    obtain ⟨hy, e'⟩ : y.length ≤ sizeLine ∧ n = y.length := e
    subst e'
    exact len_str (by omega) ⟨.int _, H, I.tok _, ⟨_, rfl⟩, q⟩
  | byt y =>
    obtain ⟨t, rfl⟩ := rx
    obtain ⟨hy, e'⟩ : y.size ≤ sizeLine ∧ n = y.size := e
    subst e'
    exact PySem.W.len_bytes (by omega) ⟨.int _, H, I.tok _, ⟨_, rfl⟩, q⟩
  | ref p =>
    cases rx
    have e' : (∃ xs, SqL X.K H p xs ∧ n = xs.length) ∨ ∃ xs, SqT X.K H p xs ∧ n = xs.length := e
    rcases e' with ⟨xs, hx, e'⟩ | ⟨xs, hx, e'⟩
    · subst e'
      obtain ⟨its, r', pl, hz⟩ := I.list hx
      have hlen := r'.length
      exact Calls.call_len_list pl.isList (by simp only [List.size_toArray]; omega) ⟨.int xs.length, H, I.tok _, ⟨_, by simp only [List.size_toArray]; rw [hlen]⟩, q⟩
    · subst e'
      obtain ⟨its, r', pl, hz⟩ := I.tuple hx
      have hlen := r'.length
      exact len_tuple pl (by simp only [List.size_toArray]; omega) ⟨.int xs.length, H, I.tok _, ⟨_, by simp only [List.size_toArray]; rw [hlen]⟩, q⟩
  | _ => exact (show False from e).elim
end
end L2
namespace L2
open PySem PySem.Spec PyProof.Rows
structure ObjM (h : Heap) (x dx C : Addr) (mA : Str → Option Value) : Prop where
  obj : h.get? x = some (PySem.W.instObj C dx)
  ns : h.Ns1 dx mA
  ne : dx ≠ x
theorem lookIn_ns {h : Heap} {dx : Addr} {mA : Str → Option Value} (n : h.Ns1 dx mA) : ∃ od, h.get? dx = some od ∧ ∀ name, PySem.W.lookIn name od = some (mA name) := by
  obtain ⟨o, es, ep, ho, hd, hk, _, hm⟩ := n
  refine ⟨o, ho, fun name => ?_⟩
  have e := hm name
  unfold nsFind findBy at e
  rw [← Array.find?_toList] at e
  unfold PySem.W.lookIn
  rw [hd]
  dsimp only
  split
  · rename_i y q
    rw [q] at e
    exact congrArg some e
  · rename_i q
    rw [q] at e
    have a : es.toList.any (·.refKey) = false := by
      rw [List.any_eq_false]
      intro y hy
      obtain ⟨z, t, hkey⟩ := hk y (Array.mem_toList_iff.mp hy)
      simp [DictEntry.refKey, hkey]
    have a' : ¬ es.toList.any (·.refKey) = true := by rw [a]; exact Bool.false_ne_true
    rw [if_neg a']
    exact congrArg some e
theorem ObjM.look {h : Heap} {x dx C : Addr} {mA : Str → Option Value} (I : ObjM h x dx C mA) : ∃ od, PySem.W.InstAt h x (PySem.W.instObj C dx) C (some od) ∧ ∀ name, PySem.W.lookIn name od = some (mA name) :=
  let ⟨od, ho, hl⟩ := lookIn_ns I.ns
  ⟨od, ⟨I.obj, rfl, rfl, ho⟩, hl⟩
section
variable {prog : Program} {w : World} {A : Around} {E : Value → Shared → Prop} {s : Shared} {K : PySem.W.Frag} {x dx C f : Addr} {mA : Str → Option Value} {name : Str} {v : Value}
end
section
variable {P : Program} {w : World} {H H' : Hp} {h h' : Heap} {a C dx : Addr} {fs fs' : List (Str × V)}
theorem ins_get (hok : HOk P w H h) (e : H a = some (.ins C dx fs)) : ∃ mA, ObjM h a dx C mA ∧ (∀ f, RelO (fs.lookup f) (mA f)) ∧ PySem.Within mA (fs.map (·.1)) ∧ fs.length ≤ 1000 ∧ H dx = some (.own a) := by
  obtain ⟨d, z, ne, ob, mA, n, r, q⟩ := (show ObjOk P w H h a (.ins C dx fs) from hok a _ e)
  exact ⟨mA, ⟨ob, n, ne⟩, r, q, z, d⟩
end
structure Cls (K : PySem.W.Frag) (C : Addr) : Prop where
  pg : PySem.W.plainGet K C Str.empty = true
  hd : PySem.W.hasDictIn K C = true
  po : PySem.W.plainOver K C = true
  sa : PySem.W.findIn K (.ref C) "__setattr__" = some (some (.builtin "object.__setattr__"))
theorem Cls.get {K : PySem.W.Frag} {C : Addr} (c : Cls K C) (f : Str) : PySem.W.plainGet K C f = true := c.pg
section
variable {X : Cx} {pins : List (Addr × Obj)} {σ : St} {H : Hp} {s : Shared} {a C dx : Addr} {fs : List (Str × V)} {f : Str} {v : V} {A : Around} {E : Value → Shared → Prop}
end
section
variable {X : Cx} {o e value : Expr} {f : Str} {pos pos' tpos : Pos} {ta tv : TE}
end
section
variable {X : Cx} {pins : List (Addr × Obj)} {σ : St} {H : Hp} {s : Shared} {A : Around} {E : Value → Shared → Prop} {Q : Value → Shared → Prop} {c : Value} {b : Bool}
inductive TyOf (K : PySem.W.Frag) (H : Hp) : V → Value → Prop where
  | non : TyOf K H .non (.type "NoneType")
  | bl (x : Bool) : TyOf K H (.bl x) (.type "bool")
  | int (i : Int) : TyOf K H (.int i) (.type "int")
  | str (x : Str) : TyOf K H (.str x) (.type "str")
  | flt (x : UInt64) : TyOf K H (.flt x) (.type "float")
  | lst {a : Addr} {xs : List V} (e : H a = some (.lst xs)) : TyOf K H (.ref a) (.type "list")
  | frz {a : Addr} {o : Obj} {xs : List V} (e : H a = some (.frz o (.lst xs))) : TyOf K H (.ref a) (.type "list")
  | tup {a : Addr} {xs : List V} (e : H a = some (.tup xs)) : TyOf K H (.ref a) (.type "tuple")
  | dK {a : Addr} {kvs : List (Key × V)} (e : H a = some (.dK kvs)) : TyOf K H (.ref a) (.type "dict")
  | dT {a : Addr} {kvs : List (List Key × V)} (e : H a = some (.dT kvs)) : TyOf K H (.ref a) (.type "dict")
  | ins {a C dx : Addr} {fs : List (Str × V)} (e : H a = some (.ins C dx fs)) (cl : Cls K C) (ha : PySem.W.findIn K (.ref C) "__class__" = some (some (.builtin "object.__class__")))
      (hn : PySem.W.specialIn K (.builtin "object.__class__") "__get__" = some (some (.builtin "getset_descriptor.__get__"))) (htk : PySem.W.takesIn K (.builtin "object.__class__") = some true)
      (hm : PySem.W.mroIn K C (.type "object") = some true) : TyOf K H (.ref a) (.ref C)
theorem isinst_ok {x : V} {u t : Value} (I : Inv X pins σ H s) (rx : RelV x u) (ty : TyOf X.K H x t) (e : PySem.W.kitOne X.K t c = some b) (h : ∀ tk, Q (.bool b) { s with toks := tk }) :
    wpAny (model X.prog X.w) A (call (.builtin "isinstance") [u, c]) Q E s := by
  cases ty with
  | non => cases (show u = Value.none from rx); exact PySem.W.kia_one PySem.W.kitx_none I.kIn True.intro e (fun z => nomatch z) h
  | bl y => cases (show u = Value.bool y from rx); exact PySem.W.kia_one PySem.W.kitx_bool I.kIn True.intro e (fun z => nomatch z) h
  | int i => obtain ⟨t, q⟩ := (show ∃ t, u = Value.int i t from rx); cases q; exact PySem.W.kia_one PySem.W.kitx_int I.kIn True.intro e (fun z => nomatch z) h
  | str y => obtain ⟨t, q⟩ := (show ∃ t, u = Value.str y t from rx); cases q; exact PySem.W.kia_one PySem.W.kitx_str I.kIn True.intro e (fun z => nomatch z) h
  | flt y => obtain ⟨t, q⟩ := (show ∃ t, u = Value.float y t from rx); cases q; exact PySem.W.kia_one PySem.W.kitx_float I.kIn True.intro e (fun z => nomatch z) h
  | @lst a xs ea =>
    cases (show u = Value.ref a from rx)
    obtain ⟨_, _, n, _, h1⟩ := (show ObjOk X.prog X.w H s.heap a (.lst xs) from I.hok a _ ea)
    exact PySem.W.kia_one PySem.W.kitx_list I.kIn ⟨_, h1, rfl⟩ e (fun z => nomatch z) h
  | @frz a ob xs ea =>
    cases (show u = Value.ref a from rx)
    obtain ⟨_, _, _, n, _, h1⟩ := (show ObjOk X.prog X.w H s.heap a (.frz ob (.lst xs)) from I.hok a _ ea)
    exact PySem.W.kia_one PySem.W.kitx_list I.kIn ⟨_, h1, rfl⟩ e (fun z => nomatch z) h
  | @tup a xs ea =>
    cases (show u = Value.ref a from rx)
    obtain ⟨_, _, _, p⟩ := (show ObjOk X.prog X.w H s.heap a (.tup xs) from I.hok a _ ea)
    obtain ⟨o, h1, h2, _⟩ := p
    exact PySem.W.kia_one PySem.W.kitx_tuple I.kIn ⟨o, h1, h2⟩ e (fun z => nomatch z) h
  | @dK a kvs ea =>
    cases (show u = Value.ref a from rx)
    obtain ⟨_, _, vs, _, p⟩ := (show ObjOk X.prog X.w H s.heap a (.dK kvs) from I.hok a _ ea)
    obtain ⟨o, es, ep, h1, h2, _⟩ := p
    exact PySem.W.kia_one PySem.W.kitx_dict I.kIn ⟨o, h1, h2.1⟩ e (fun z => nomatch z) h
  | @dT a kvs ea =>
    cases (show u = Value.ref a from rx)
    obtain ⟨_, _, xs, _, o, es, ep, h1, h2, _⟩ := (show ObjOk X.prog X.w H s.heap a (.dT kvs) from I.hok a _ ea)
    exact PySem.W.kia_one PySem.W.kitx_dict I.kIn ⟨o, h1, h2.1⟩ e (fun z => nomatch z) h
  | @ins a C dx fs ea cl ha hn htk hm =>
    cases (show u = Value.ref a from rx)
    obtain ⟨mA, O, _⟩ := ins_get I.hok ea
    obtain ⟨od, J, _⟩ := O.look
    exact PySem.W.kia_one (PySem.W.kitx_own (cl.get _) cl.hd ha hn htk hm) I.kIn J e (fun z => nomatch z) h
end
end L2
namespace L2
open PySem PySem.Spec PyProof.Rows
structure Room (k : Nat) (A : Around) : Prop where
  hd : A.handled = none
  dp : A.depth + 3 * k + 5 < recursionLimit
  un : A.units + 16 * k + 200 < cLine
theorem Room.mono {j k : Nat} {A : Around} (r : Room k A) (h : j ≤ k) : Room j A := ⟨r.hd, by have := r.dp; omega, by have := r.un; omega⟩
theorem Room.deeper {k : Nat} {A : Around} (r : Room (k + 1) A) (env : Env) : Room k (A.deeper env) :=
  ⟨r.hd, by have := r.dp; show A.depth + 1 + 3 * k + 5 < _; omega, by have := r.un; show A.units + 3 + 16 * k + 200 < _; omega⟩
theorem Room.depth {k : Nat} {A : Around} (r : Room k A) : A.depth < recursionLimit := by have := r.dp; omega
theorem Room.units0 {k : Nat} {A : Around} (r : Room k A) : A.units < cLine := by have := r.un; omega
def tNil : TA := fun _ H Q => Q [] H
def tCons (ta : TE) (tr : TA) : TA := fun σ H Q => ta σ H fun x H1 => tr σ H1 fun xs H2 => Q (x :: xs) H2
section
variable {X : Cx} {e : Expr} {es : List Expr} {te : TE} {t : TA} {pos : Pos}
theorem pa_nil : PA X [] tNil := fun _ _ _ _ H Q I h => Calls.spliced_nil ⟨[], H, I, .nil, h⟩
theorem pa_cons (ha : PE X e te) (hr : PA X es t) (hs : starEach (e :: es) X.env = (false, eval e X.env) :: starEach es X.env := by rfl) : PA X (e :: es) (tCons te t) := by
  intro pos pins s σ H Q I h
  rw [hs]
  show wpAny _ _ (spliced ((false, eval e X.env) :: backTo pos (starEach es X.env))) _ _ s
  refine Calls.spliced_cons (thn (ha pins s σ H _ I h) fun u s1 ⟨x, H1, I1, r1, q1⟩ => ?_)
  exact thn (hr pos pins s1 σ H1 _ I1 q1) fun us s2 ⟨xs, H2, I2, r2, q2⟩ => ⟨x :: xs, H2, I2, .cons r1 r2, q2⟩
def tTup (t : TA) : TE := fun σ H Q => t σ H fun xs H1 => xs.length ≤ sizeLine ∧ ∀ p, H1 p = none → Q (.ref p) (upd H1 p (.tup xs))
def tLst (t : TA) : TE := fun σ H Q => t σ H fun xs H1 => xs.length ≤ sizeLine ∧ ∀ p, H1 p = none → Q (.ref p) (upd H1 p (.lst xs))
theorem pe_tup {x1} (h : PA X es t) : PE X (.Tuple es x1 pos) (tTup t) := by
  intro pins s σ H Q I hq
  refine wpAny_Tuple_spliced (thn (h pos pins s σ H _ I hq) fun us s1 ⟨xs, H1, I1, r, z, q⟩ => ⟨by rw [← r.length]; exact z, ?_⟩)
  have hf : H1 s1.heap.objs.size = none := I1.hok.fresh (Nat.le_refl _)
  refine ⟨.ref s1.heap.objs.size, upd H1 s1.heap.objs.size (.tup xs), I1.laid (t' := s1.toks) (fun b u e => Heap.get?_push_of_some _ e) (Nat.le_refl _) ?_, rfl, q _ hf⟩
  exact ⟨z, us, r, ⟨_, Heap.get?_push_size _ rfl, rfl, _, rfl⟩⟩
theorem pe_lst (h : PA X es t) : PE X (.List es pos) (tLst t) := by
  intro pins s σ H Q I hq
  refine wpAny_List_spliced (thn (h pos pins s σ H _ I hq) fun us s1 ⟨xs, H1, I1, r, z, q⟩ => ⟨by rw [← r.length]; exact z, ?_⟩)
  have hf : H1 s1.heap.objs.size = none := I1.hok.fresh (Nat.le_refl _)
  refine ⟨.ref s1.heap.objs.size, upd H1 s1.heap.objs.size (.lst xs), I1.laid (t' := s1.toks) (fun b u e => Heap.get?_push_of_some _ e) (Nat.le_refl _) ?_, rfl, q _ hf⟩
  exact ⟨z, us, 0, r, Heap.get?_push_size _ rfl⟩
end
abbrev Sp := List V → Hp → VK → XK → Prop
abbrev CXT := List Env → Hp → Shared → XK → Value → Shared → Prop
structure Env0 (P : Program) (w : World) (K : PySem.W.Frag) (mg : Str → Option Value) (base : Heap) (A : Around) (outer : List Env) (s : Shared) (H : Hp) : Prop where
  frames : A.frames = some outer
  mod : Mod K mg base
  bs : ∀ b o, base.get? b = some o → s.heap.get? b = some o ∧ H b = none
  bsz : base.objs.size ≤ s.heap.objs.size
  funs : s.heap.FunFrames base outer
  frf : ∀ b ∈ frs outer, H b = none
  hok : HOk P w H s.heap
  bare : AllBare s.gens
def CE (outer : List Env) (P : Program) (w : World) (H : Hp) (s : Shared) (Q : VK) (u : Value) (s' : Shared) : Prop :=
  ∃ v H', s'.os = s.os ∧ AllBare s'.gens ∧ Un (frs outer) [] H H' s.heap s'.heap ∧ HOk P w H' s'.heap ∧ RelV v u ∧ Q v H'
def CR (CX : CXT) (outer : List Env) (P : Program) (w : World) (H : Hp) (s : Shared) (Q : VK) (E : XK) (r : Result) (s' : Shared) : Prop :=
  match r with
  | .ok (.ret u) => CE outer P w H s Q u s'
  | .ok _ => False
  | .error e => CX outer H s E e s'
structure FnOk (P : Program) (w : World) (K : PySem.W.Frag) (mg : Str → Option Value) (base : Heap) (CX : CXT) (k : Nat) (f : Addr) (fd : FuncData) (ps : List Str) (sp : Sp) : Prop where
  len : ∀ vs H Q E, sp vs H Q E → vs.length = ps.length
  run : ∀ (A : Around) (outer : List Env) (s : Shared) (H : Hp) (args : Args) (us : List Value) (vs : List V) (Q : VK) (E : XK), Room k A → Env0 P w K mg base A outer s H → BindsTo s fd args (ps.zip us) → Vals vs us → sp vs H Q E →
    codeAny (model P w) A (.call (.ref f) args) (CR CX outer P w H s Q E) s
theorem FnOk.imp {P : Program} {w : World} {K : PySem.W.Frag} {mg : Str → Option Value} {base : Heap} {CX : CXT} {k : Nat} {f : Addr} {fd : FuncData} {ps : List Str} {sp sp' : Sp} (F : FnOk P w K mg base CX k f fd ps sp)
    (h : ∀ vs H Q E, sp' vs H Q E → sp vs H Q E) : FnOk P w K mg base CX k f fd ps sp' :=
  ⟨fun vs H Q E q => F.len vs H Q E (h _ _ _ _ q), fun A outer s H args us vs Q E hr he hb hv hs => F.run A outer s H args us vs Q E hr he hb hv (h _ _ _ _ hs)⟩
section
variable {X : Cx} {pins : List (Addr × Obj)} {σ : St} {H : Hp} {s s' : Shared}
theorem Inv.env0 (I : Inv X pins σ H s) : Env0 X.prog X.w X.K X.mg X.base X.A X.stack s H :=
  ⟨I.ok.frames, I.ok.mod, I.bs, Nat.le_trans I.ok.bsz I.sz, I.stack, I.stkFree, I.hok, I.bare⟩
theorem Inv.after {Q : VK} {u : Value} (I : Inv X pins σ H s) (h : CE X.stack X.prog X.w H s Q u s') : EP X pins σ Q u s' := by
  obtain ⟨v, H', os, bare, un, hok, r, q⟩ := h
  obtain ⟨hh, g, d, t, os'⟩ := s'
  obtain rfl : os' = s.os := os
  exact ⟨v, H', I.call (h' := hh) (g' := g) (d' := d) (t' := t) (ch := []) un hok bare (fun b z => absurd z (by simp)), r, q⟩
end
def tCall (sp : Sp) (dvs : List V) (E : XK) (t : TA) : TE := fun σ H Q => t σ H fun vs H1 => sp (vs ++ dvs) H1 Q E
def Binds (K : PySem.W.Frag) (fd : FuncData) (ps : List Str) (ds : List Value) : Prop :=
  ∀ (s : Shared) (us : List Value), K.In s.heap → (us ++ ds).length = ps.length → BindsTo s fd ⟨us, []⟩ (ps.zip (us ++ ds))
theorem Binds.all {K : PySem.W.Frag} {fd : FuncData} {ps : List Str} (h : ∀ us : List Value, us.length = ps.length → bindArgs fd ⟨us, []⟩ = pure (ps.zip us)) : Binds K fd ps [] := fun s us _ hl => by
  rw [List.append_nil] at hl ⊢
  exact .of_eq (h us hl)
def Passes (CX : CXT) (X : Cx) (E : XK) : Prop := ∀ (pins : List (Addr × Obj)) (σ : St) (H : Hp) (s : Shared) (e : Value) (s' : Shared), Inv X pins σ H s → CX X.stack H s E e s' → X.xe e s'
section
variable {X : Cx} {CX : CXT} {k : Nat} {f C : Addr} {fd : FuncData} {ps : List Str} {sp : Sp} {dvs : List V} {ds : List Value} {E : XK} {x m : Str} {p pos apos : Pos} {e o : Expr} {es : List Expr} {ta : TE} {t : TA}
theorem run_fn {pins : List (Addr × Obj)} {σ : St} {H : Hp} {s : Shared} {Q : VK} {us : List Value} {vs : List V} (F : FnOk X.prog X.w X.K X.mg X.base CX k f fd ps sp) (hr : Room k X.A) (hb : Binds X.K fd ps ds) (hd : Vals dvs ds) (hx : Passes CX X E)
    (I : Inv X pins σ H s) (r : Vals vs us) (h : sp (vs ++ dvs) H Q E) : wpAny (model X.prog X.w) X.A (call (.ref f) us) (EP X pins σ Q) X.xe s := by
  have r2 : Vals (vs ++ dvs) (us ++ ds) := r.append hd
  have hl : (us ++ ds).length = ps.length := by rw [← r2.length]; exact F.len _ _ _ _ h
  refine wpAny_call (codeAny_mono (F.run X.A X.stack s H ⟨us, []⟩ (us ++ ds) (vs ++ dvs) Q E hr I.env0 (hb s us I.kIn hl) r2 h) fun r s' hq => ?_)
  cases r with
  | error e => exact hx pins σ H s e s' I hq
  | ok fl =>
    cases fl with
    | ret u => exact I.after hq
    | next => exact False.elim hq
    | brk => exact False.elim hq
    | cont => exact False.elim hq
theorem pe_call (F : FnOk X.prog X.w X.K X.mg X.base CX k f fd ps sp) (hr : Room k X.A) (hg : Gl X x) (hm : X.mg x = some (.ref f)) (hk : PySem.W.keepIn X.K (.ref f) = true) (hb : Binds X.K fd ps ds) (hd : Vals dvs ds) (hx : Passes CX X E)
    (ha : PA X (e :: es) t) (hdb : (x == ("__debug__" : Str)) = false := by decide) (he : starEach (e :: es) X.env = (false, eval e X.env) :: starEach es X.env := by rfl) (hpl : (backTo pos (starEach es X.env)).any (·.1) = false := by rfl) :
    PE X (.Call (.Name x p) (e :: es) [] pos) (tCall sp dvs E t) := by
  intro pins s σ H Q I h
  refine wpAny_Call_Name_kw (ld_glob I hg hm ?_ hdb)
  refine PySem.W.callWith_K (h₀ := X.base) I.ok.mod.kin hk (thn (ha pos pins s σ H _ I h) fun us s1 ⟨vs, H1, I1, r, q⟩ => ⟨I1.kIn, ?_⟩) he hpl
  exact run_fn F hr hb hd hx I1 r q
end
section
variable {X : Cx} {CX : CXT} {k : Nat} {f C : Addr} {fd : FuncData} {ps ks : List Str} {sp : Sp} {E : XK} {x m : Str} {p pos apos kpos : Pos} {e o : Expr} {es : List Expr} {kws : List Keyword} {te ta : TE} {t tk : TA} {nm : Option Str}
variable {g : List Value → List Value → List Value} {gV : List V → List V → List V}
end
structure FnScope (N P : List Str) (sc : Scope) : Prop where
  kind : sc.kind = .function
  co : sc.isCoroutine = false
  gen : sc.isGenerator = false
  nd : N.Nodup
  pre : N.take P.length = P
  par : ∀ x ∈ P, sc.names.lookup x = some .local ∨ sc.names.lookup x = some .cell
  nofree : ∀ y ∈ sc.names, y.2 ≠ .free
theorem bindL_out {kindOf : Str → Option NameKind} {x : Str} : ∀ {binds : List (Str × Value)} {m : Str → Option Value}, (∀ v, (x, v) ∉ binds) → bindL kindOf binds m x = m x
  | [], _, _ => rfl
  | (n, v) :: r, m, h => by
    unfold bindL
    rw [bindL_out fun w hw => h w (List.mem_cons_of_mem _ hw)]
    split
    · have : x ≠ n := by rintro rfl; exact h v List.mem_cons_self
      simp [this]
    · rfl
theorem bindC_out {kindOf : Str → Option NameKind} {x : Str} : ∀ {binds : List (Str × Value)} {m : Str → Option Value}, (∀ v, (x, v) ∉ binds) → bindC kindOf binds m x = m x
  | [], _, _ => rfl
  | (n, v) :: r, m, h => by
    unfold bindC
    rw [bindC_out fun w hw => h w (List.mem_cons_of_mem _ hw)]
    split
    · rfl
    · have : x ≠ n := by rintro rfl; exact h v List.mem_cons_self
      simp [this]
theorem bindL_get {kindOf : Str → Option NameKind} {x : Str} {v : Value} : ∀ {P : List Str} {vs : List Value} {i : Nat} {m : Str → Option Value}, P.Nodup → P[i]? = some x → vs[i]? = some v → kindOf x = some .local →
    bindL kindOf (P.zip vs) m x = some v
  | [], _, _, _, _, h, _, _ => by simp at h
  | _ :: _, [], _, _, _, _, h, _ => by simp at h
  | p :: P, w :: vs, 0, m, nd, h1, h2, hk => by
    simp at h1 h2; subst h1; subst h2
    show bindL kindOf ((p, w) :: P.zip vs) m p = _
    unfold bindL
    rw [bindL_out fun v hv => (List.nodup_cons.mp nd).1 (List.of_mem_zip hv).1, if_pos hk]
    simp
  | p :: P, w :: vs, i + 1, m, nd, h1, h2, hk => by
    show bindL kindOf ((p, w) :: P.zip vs) m x = _
    unfold bindL
    exact bindL_get (i := i) (List.nodup_cons.mp nd).2 (by simpa using h1) (by simpa using h2) hk
theorem bindC_get {kindOf : Str → Option NameKind} {x : Str} {v : Value} : ∀ {P : List Str} {vs : List Value} {i : Nat} {m : Str → Option Value}, P.Nodup → P[i]? = some x → vs[i]? = some v → kindOf x ≠ some .local →
    bindC kindOf (P.zip vs) m x = some v
  | [], _, _, _, _, h, _, _ => by simp at h
  | _ :: _, [], _, _, _, _, h, _ => by simp at h
  | p :: P, w :: vs, 0, m, nd, h1, h2, hk => by
    simp at h1 h2; subst h1; subst h2
    show bindC kindOf ((p, w) :: P.zip vs) m p = _
    unfold bindC
    rw [bindC_out fun v hv => (List.nodup_cons.mp nd).1 (List.of_mem_zip hv).1, if_neg hk]
    simp
  | p :: P, w :: vs, i + 1, m, nd, h1, h2, hk => by
    show bindC kindOf ((p, w) :: P.zip vs) m x = _
    unfold bindC
    exact bindC_get (i := i) (List.nodup_cons.mp nd).2 (by simpa using h1) (by simpa using h2) hk
def start (N : List Str) (vs : List V) : St := vs.map some ++ List.replicate (N.length - vs.length) none
def cxOf (CX : CXT) (P : Program) (w : World) (K : PySem.W.Frag) (mg : Str → Option Value) (base : Heap) (N : List Str) (qual : Str) (scope : Scope) (f : Addr) (cd : Value) (A : Around) (outer : List Env) (s : Shared) (H : Hp) (E : XK) : Cx where
  prog := P
  w := w
  K := K
  mg := mg
  base := base
  A := A.deeper (envOfC qual scope s.heap.objs.size f cd)
  N := N
  s₀ := s
  H₀ := H
  env := envOfC qual scope s.heap.objs.size f cd
  outer := outer
  stack := envOfC qual scope s.heap.objs.size f cd :: outer
  ex := []
  calm := true
  fn := fun _ => true
  pn := []
  xe := fun e s' => wpAny (model P w) (A.deeper (envOfC qual scope s.heap.objs.size f cd)) (leaving (envOfC qual scope s.heap.objs.size f cd) e) (fun _ s'' => CX outer H s E e s'') (fun e' s'' => CX outer H s E e' s'') s'
theorem cell_has {sc : Scope} {n : Nat} {x : Str} (h : sc.names.lookup x = some .cell) : ∃ c, (cellsFrom n sc.names []).lookup x = some c := by
  have q := PySem.W.cellsFrom_some sc.names n [] (.inl h)
  exact Option.isSome_iff_exists.mp q
theorem inv_start {CX : CXT} {P : Program} {w : World} {K : PySem.W.Frag} {mg : Str → Option Value} {base : Heap} {N ps : List Str} {qual : Str} {scope : Scope} {f : Addr} {cd : Value} {A : Around} {outer : List Env} {s s1 : Shared} {H : Hp} {E : XK} {us : List Value} {vs : List V}
    (S : FnScope N ps scope) (hd : A.handled = none) (e0 : Env0 P w K mg base A outer s H) (hl : vs.length = ps.length) (r : Vals vs us)
    (x : InCallC s s.heap.objs.size (bindL (envOfC qual scope s.heap.objs.size f cd).kindOf (ps.zip us) fun _ => none) (cellsFrom (s.heap.objs.size + 1) scope.names []) (bindC (envOfC qual scope s.heap.objs.size f cd).kindOf (ps.zip us) fun _ => none) s1) :
    Inv (cxOf CX P w K mg base N qual scope f cd A outer s H E) [] (start N vs) H s1 := by
  have hpl : ps.length ≤ N.length := by have := congrArg List.length S.pre; rw [List.length_take] at this; omega
  obtain ⟨h1, tk, rfl, hk⟩ := x.done
  have noA : ∀ b : Addr, b ∉ (cxOf CX P w K mg base N qual scope f cd A outer s H E).ex := fun b z => absurd (show b ∈ ([] : List Addr) from z) (by simp)
  refine ⟨⟨e0.mod, S.kind, rfl, rfl, Nat.le_refl _, fun y z c h1 h2 => ?_, fun y hy => ?_, fun y c _ h => ?_, fun _ => hd, Around.frames_deeper e0.frames, .inr ⟨rfl, rfl⟩, fun b z => absurd z (noA b), e0.bs, e0.bsz, fun b _ _ => noA b, fun b z => absurd z (noA b), e0.funs, e0.frf⟩,
    rfl, e0.bare, Un.kept hk, ⟨_, x.toInCall.ns, fun i y v h1 h2 h3 => ?_⟩, fun y c h => ⟨_, x.cell y c h⟩, e0.hok.fresh (Nat.le_refl _), fun y c h => ?_, fun p hp => absurd (show p ∈ ([] : List (Addr × Obj)) from hp) (by simp), e0.hok.kept hk, ?_⟩
  · exact name_of_addr x.apart (PySem.mem_of_lookup h1) (PySem.mem_of_lookup h2)
  · have hy : scope.names.lookup y = some .cell ∨ scope.names.lookup y = some .free := hy
    rcases hy with hy | hy
    · exact cell_has hy
    · exact absurd rfl (S.nofree _ (PySem.mem_of_lookup hy))
  · exact Nat.le_of_lt (x.above y c (PySem.mem_of_lookup h))
  · have hi : i < vs.length := by
      unfold start at h2
      by_cases hi : i < vs.length
      · exact hi
      · rw [List.getElem?_append_right (by simpa using hi)] at h2
        rw [List.getElem?_replicate] at h2
        split at h2 <;> cases h2
    have ha : vs[i]? = some v := by
      unfold start at h2
      rw [List.getElem?_append_left (by simpa using hi), List.getElem?_map] at h2
      cases e : vs[i]? with
      | none => rw [e] at h2; cases h2
      | some a => rw [e] at h2; cases h2; rfl
    obtain ⟨u, hu, rv⟩ := r.get ha
    have hp : ps[i]? = some y := by
      rw [← S.pre, List.getElem?_take_of_lt (by omega)]; exact h1
    have ndP : ps.Nodup := by rw [← S.pre]; exact S.nd.sublist (List.take_sublist _ _)
    refine ⟨u, rv, ?_⟩
    rcases S.par y (List.mem_of_getElem? hp) with k | k
    · exact .inl ⟨k, bindL_get ndP hp hu k⟩
    · obtain ⟨c, e⟩ := cell_has (n := s.heap.objs.size + 1) k
      refine .inr ⟨.inl k, c, e, ?_⟩
      have q := x.cell y c e
      rw [bindC_get ndP hp hu (by show scope.names.lookup y ≠ _; rw [k]; decide)] at q
      exact q
  · exact e0.hok.fresh (Nat.le_of_lt (x.above y c (PySem.mem_of_lookup h)))
  · unfold start
    show _ = N.length
    rw [List.length_append, List.length_map, List.length_replicate]
    omega
theorem fn_of {CX : CXT} {P : Program} {w : World} {K : PySem.W.Frag} {mg : Str → Option Value} {base : Heap} {k : Nat} {f : Addr} {name qual : Str} {params : Arguments} {body : List Stmt} {scope : Scope} {dV kV doc pm cdv ct oc : Value} {an od : Option Addr}
    {osl : Array (Option Value)} {N ps : List Str} {sp : Sp} (lk : K.lookup f = some ⟨oc, od, .func (PySem.W.fnOf name qual params body scope dV kV doc pm an cdv ct), osl⟩) (hcd : PySem.W.codeIn K cdv qual = true) (S : FnScope N ps scope)
    (len : ∀ vs H Q E, sp vs H Q E → vs.length = ps.length)
    (hbody : ∀ (A : Around) (outer : List Env) (s : Shared) (H : Hp) (vs : List V) (Q : VK) (E : XK), Room k (A.deeper (envOfC qual scope s.heap.objs.size f cdv)) → sp vs H Q E →
      ∃ t, PSs (cxOf CX P w K mg base N qual scope f cdv A outer s H E) body t ∧ t { nx := fun _ H' => Q .non H', rt := Q } (start N vs) H) :
    FnOk P w K mg base CX (k + 1) f (PySem.W.fnOf name qual params body scope dV kV doc pm an cdv ct) ps sp := by
  refine ⟨len, fun A outer s H args us vs Q E hr e0 hb r hsp => ?_⟩
  have hl := len _ _ _ _ hsp
  have KX : K.In s.heap := e0.mod.kin.keeps fun b o e => (e0.bs b o e).1
  have lim : s.heap.NoLimit := e0.mod.nolimit.keeps fun b o e => (e0.bs b o e).1
  have hkind : ∀ y ∈ ps.zip us, scope.names.lookup y.1 = some .local ∨ (scope.names.lookup y.1 = some .cell ∧ ((cellsFrom (s.heap.objs.size + 1) scope.names []).lookup y.1).isSome = true) := fun ⟨n, v⟩ hy => by
    rcases S.par n (List.of_mem_zip hy).1 with q | q
    · exact .inl q
    · exact .inr ⟨q, PySem.W.cellsFrom_some _ _ _ (.inl q)⟩
  refine codeAny_call_function hr.depth (KX _ _ lk) rfl S.co S.gen rfl (PySem.W.codeRec_of KX hcd) (hb _ _ _ _ ?_)
  refine wpAny_newFunctionEnv_cells S.kind hkind fun env he s1 x => ?_
  subst he
  refine ⟨lim.keeps x.toInCall.keep, codeAny_func ?_⟩
  obtain ⟨t, ht, hq⟩ := hbody A outer s H vs Q E (hr.deeper _) hsp
  have I : Inv (cxOf CX P w K mg base N qual scope f cdv A outer s H E) [] (start N vs) H s1 := inv_start S hr.hd e0 hl r x
  refine wpAny_mono (ht [] s1 (start N vs) H _ I hq) (fun fl s' hs => ?_) fun e s' hs => hs
  have fin : ∀ {σ' : St} {H' : Hp} {v : V} {u : Value}, Inv (cxOf CX P w K mg base N qual scope f cdv A outer s H E) [] σ' H' s' → RelV v u → Q v H' → CE outer P w H s Q u s' :=
    fun {σ' H' v u} J rv q => ⟨v, H', J.os, J.bare, J.base, J.hok, rv, q⟩
  cases fl with
  | ret u =>
    obtain ⟨v, σ', H', J, rv, q⟩ := hs
    exact fin J rv q
  | next =>
    obtain ⟨σ', H', J, q⟩ := hs
    exact fin (v := V.non) (u := Value.none) J rfl q
  | brk =>
    obtain ⟨_, _, _, q⟩ := hs
    exact False.elim q
  | cont =>
    obtain ⟨_, _, _, q⟩ := hs
    exact False.elim q
end L2
namespace L2
open PySem PySem.Spec PyProof.Rows
section
variable {X : Cx} {x : Str} {p pos : Pos} {e : Expr} {es : List Expr} {t : TA} {id T : String} {r : List V → Hp → VK → Prop}
def tCB (r : List V → Hp → VK → Prop) (t : TA) : TE := fun σ H Q => t σ H fun vs H1 => r vs H1 Q
theorem pe_callB (hc : CallR X (.builtin id) r) (hg : Gl X x) (hm : X.mg x = none) (hv : bootBuiltins x = some (.builtin id)) (ha : PA X (e :: es) t) (hn : x ≠ "__name__" := by decide) (hdb : (x == ("__debug__" : Str)) = false := by decide)
    (he : starEach (e :: es) X.env = (false, eval e X.env) :: starEach es X.env := by rfl) (hpl : (backTo pos (starEach es X.env)).any (·.1) = false := by rfl) : PE X (.Call (.Name x p) (e :: es) [] pos) (tCB r t) := by
  intro pins s σ H Q I h
  refine wpAny_Call_Name_kw (ld_blt I hg hm hv ?_ hn hdb)
  exact PyProof.Rows.callWith_builtin1 (thn (ha pos pins s σ H _ I h) fun us s1 ⟨vs, H1, I1, r1, q1⟩ => hc pins s1 σ H1 vs us Q I1 r1 q1) he hpl
theorem pe_callTy (hc : CallR X (.type T) r) (hg : Gl X x) (hm : X.mg x = none) (hv : bootBuiltins x = some (.type T)) (ha : PA X (e :: es) t) (hn : x ≠ "__name__" := by decide) (hdb : (x == ("__debug__" : Str)) = false := by decide)
    (he : starEach (e :: es) X.env = (false, eval e X.env) :: starEach es X.env := by rfl) (hpl : (backTo pos (starEach es X.env)).any (·.1) = false := by rfl) : PE X (.Call (.Name x p) (e :: es) [] pos) (tCB r t) := by
  intro pins s σ H Q I h
  refine wpAny_Call_Name_kw (ld_blt I hg hm hv ?_ hn hdb)
  exact PyProof.Rows.callWith_type1 (thn (ha pos pins s σ H _ I h) fun us s1 ⟨vs, H1, I1, r1, q1⟩ => hc pins s1 σ H1 vs us Q I1 r1 q1) he hpl
end
end L2
namespace HT
open PySem PyProof.Rows
section
open PySem.SeqAt
open PySem.AutoSeq1 (wpAny_loadPart')
open PySem.MeetsSeq PySem.MeetsSeq2 PySem.MeetsSeq3
end
section
variable {prog : Program} {w : World} {A : Around} {E : Value → Shared → Prop} {s : Shared}
theorem cat_tup {t b : Addr} {vs ws : List Value} {Q : Value → Shared → Prop} (ht : IsTup s.heap t vs.toArray) (hb : IsTup s.heap b ws.toArray) (hv : vs ≠ [])
    (h1 : ws = [] → Q (.ref t) s) (h2 : ws ≠ [] → Q (.ref s.heap.objs.size) { s with heap := s.heap.push { cls := .type "tuple", data := .seq (vs ++ ws).toArray } })
    (hsz : vs.length + ws.length ≤ sizeLine) : wpAny (model prog w) A (binaryOp .Add (.ref t) (.ref b)) Q E s := by
  obtain ⟨⟨cls, dd, data, sl⟩, ho, hc, n, hd⟩ := id ht
  obtain ⟨⟨cls2, dd2, data2, sl2⟩, ho2, hc2, n2, hd2⟩ := id hb
  simp only at hc hd hc2 hd2
  subst hc hd hc2 hd2
  have e : vs.toArray ++ ws.toArray = (vs ++ ws).toArray := by simp
  by_cases hw : ws = []
  · exact concat_meets ⟨_, ho, rfl⟩ ⟨_, ho2, rfl⟩ noFill_tuple_add seq_tuple_add PySem.F.slot_tuple_add PySem.F.entry_tuple_add (PySem.F.args_tuple_add_2 _ _)
      (tuple_addW1 t b vs.toArray ws.toArray n n2 dd dd2 sl sl2 (by simpa using hv) (by simp [hw])) ⟨ho, ho2, h1 hw⟩
  · refine concat_meets ⟨_, ho, rfl⟩ ⟨_, ho2, rfl⟩ noFill_tuple_add seq_tuple_add PySem.F.slot_tuple_add PySem.F.entry_tuple_add (PySem.F.args_tuple_add_2 _ _)
      (tuple_addW2 t b vs.toArray ws.toArray n n2 dd dd2 sl sl2 (by simpa using hv) (by simpa using hw) (by rw [List.size_toArray, List.size_toArray]; exact hsz)) ⟨ho, ho2, ?_⟩
    rw [e]
    exact h2 hw
def sIx (n d : Nat) : Option Int → Nat
  | none => d
  | some v => if v < 0 then (v + (n : Int)).toNat else min v.toNat n
theorem sIx_nat (n d k : Nat) : sIx n d (some (k : Int)) = min k n := by
  show (if (k : Int) < 0 then ((k : Int) + (n : Int)).toNat else min (k : Int).toNat n) = min k n
  rw [if_neg (by omega), Int.toNat_natCast]
theorem sIx_le (n d : Nat) (hd : d ≤ n) (o : Option Int) : sIx n d o ≤ n := by
  cases o with
  | none => exact hd
  | some v =>
    show (if v < 0 then (v + (n : Int)).toNat else min v.toNat n) ≤ n
    by_cases hv : v < 0
    · rw [if_pos hv]; omega
    · rw [if_neg hv]; exact Nat.min_le_right _ _
theorem clip_eq (v : Int) (n d : Nat) : (if v < 0 then max (v + (n : Int)) 0 else min v (n : Int)) = ((sIx n d (some v) : Nat) : Int) := by
  show (if v < 0 then max (v + (n : Int)) 0 else min v (n : Int)) = (((if v < 0 then (v + (n : Int)).toNat else min v.toNat n) : Nat) : Int)
  by_cases hv : v < 0
  · simp only [if_pos hv]; omega
  · simp only [if_neg hv]; omega
theorem adjust_gen (lo hi : Option Int) (n : Nat) : Builtin.Slice.sliceAdjust lo hi 1 (n : Int) = (((sIx n 0 lo : Nat) : Int), ((sIx n n hi : Nat) : Int)) := by
  have h1 : ¬ ((1 : Int) < 0) := by omega
  unfold Builtin.Slice.sliceAdjust
  simp only [h1, if_false]
  refine Prod.ext ?_ ?_
  · cases lo with
    | none => rfl
    | some v => exact clip_eq v n 0
  · cases hi with
    | none => rfl
    | some v => exact clip_eq v n n
theorem places_gen (i j : Nat) : Builtin.Slice.slicePlaces (i : Int) (j : Int) 1 = j - i := by
  unfold Builtin.Slice.slicePlaces
  have h1 : (1 : Int) > 0 := by omega
  simp only [h1, if_true, Int.ediv_one]
  split <;> omega
theorem slicePart_ {v : Value} {o : Option Int} {Q : Option Int → Shared → Prop} (p : IsPart v o) (h : Q o s) : wpAny (model prog w) A (Builtin.Slice.slicePartIndex v) Q E s := by
  cases p with
  | none => exact slicePart_none h
  | int i t => exact slicePart_int h
theorem sliceApplied_gen {sl : Addr} {vl vu : Value} {lo hi : Option Int} {n : Nat} {Q : Int × Int × Nat → Shared → Prop} (hs : s.heap.IsSliceOf sl vl vu .none) (pl : IsPart vl lo) (pu : IsPart vu hi)
    (h : Q (((sIx n 0 lo : Nat) : Int), 1, sIx n n hi - sIx n 0 lo) s) : wpAny (model prog w) A (Builtin.Slice.sliceApplied (.ref sl) (pure (n : Int))) Q E s := by
  obtain ⟨os, hos, hcs, hds⟩ := id hs
  unfold Builtin.Slice.sliceApplied Builtin.Slice.sliceFields
  refine wpAny_bind (wpAny_bind (wpAny_field hos hds (x := vl) rfl (wpAny_bind (wpAny_field hos hds (x := vu) rfl (wpAny_bind (wpAny_field hos hds (x := .none) rfl (wpAny_pure ?_)))))))
  refine wpAny_bind (slicePart_none ?_)
  show wpAny _ _ (if ((1 : Int) == 0) = true then _ else _) _ _ s
  rw [if_neg (by decide)]
  refine wpAny_bind (slicePart_ pl (wpAny_bind (slicePart_ pu (wpAny_bind (wpAny_pure ?_)))))
  show wpAny _ _ (match Builtin.Slice.sliceAdjust lo hi 1 (n : Int) with | (lo, hi) => pure (lo, (1 : Int), Builtin.Slice.slicePlaces lo hi 1)) _ _ s
  rw [adjust_gen lo hi n]
  show wpAny _ _ (pure (((sIx n 0 lo : Nat) : Int), (1 : Int), Builtin.Slice.slicePlaces ((sIx n 0 lo : Nat) : Int) ((sIx n n hi : Nat) : Int) 1)) _ _ s
  rw [places_gen]
  exact wpAny_pure h
theorem pick_gen (xs : Array Value) (i k : Nat) : ((List.range k).filterMap fun (m : Nat) => xs[((i : Int) + (m : Int) * 1).toNat]?).toArray = ((xs.toList.drop i).take k).toArray := by
  have e : (fun (m : Nat) => xs[((i : Int) + (m : Int) * 1).toNat]?) = fun m => xs[i + m]? := by
    funext m
    have : ((i : Int) + (m : Int) * 1).toNat = i + m := by omega
    rw [this]
  rw [e]
  have := pick_run xs i k
  rw [List.filterMap_map] at this
  have e2 : ((fun x => xs[x]?) ∘ fun x => i + x) = fun m => xs[i + m]? := rfl
  rw [e2] at this
  rw [this]
theorem getItem_tuple_cut {t sl : Addr} {items : Array Value} {vl vu : Value} {lo hi : Option Int} {Q : Value → Shared → Prop} (ht : IsTup s.heap t items) (hs : s.heap.IsSliceOf sl vl vu .none) (pl : IsPart vl lo) (pu : IsPart vu hi)
    (hw : ¬ (sIx items.size 0 lo = 0 ∧ sIx items.size items.size hi = items.size))
    (h : Q (.ref s.heap.objs.size) { s with heap := s.heap.push { cls := .type "tuple", data := .seq ((items.toList.drop (sIx items.size 0 lo)).take (sIx items.size items.size hi - sIx items.size 0 lo)).toArray } })
    (hsz : items.size ≤ sizeLine) : wpAny (model prog w) A (getItem (.ref t) (.ref sl)) Q E s := by
  have htake : sizeOk (.seq ((items.toList.drop (sIx items.size 0 lo)).take (sIx items.size items.size hi - sIx items.size 0 lo)).toArray) := by
    show ((items.toList.drop (sIx items.size 0 lo)).take (sIx items.size items.size hi - sIx items.size 0 lo)).toArray.size ≤ sizeLine
    rw [List.size_toArray, List.length_take, List.length_drop, Array.length_toList]
    omega
  have hj : sIx items.size items.size hi ≤ items.size := sIx_le _ _ (Nat.le_refl _) hi
  obtain ⟨os, hos, hcs, hds⟩ := id hs
  have hTs : s.TypeIs (.ref sl) "slice" := ⟨os, hos, hcs⟩
  unfold getItem
  try with_reducible refine wpAny_holding ?_
  first | refine wpAny_bind (wpAny_pure ?_) | skip
  refine wpAny_bind (wpAny_sequenceKey ht.typeIs (by decide) ?_)
  refine wpAny_bind (wpAny_callSpecial?_slot (name := Str.ofString "__getitem__") ht.typeIs PyProof.Rows.slot_tuple_getitem
    (wpAny_call_entry PyProof.Rows.slot_tuple_getitem ht.typeIs entry_tuple_getitem ?_ (args_tuple_getitem _ _)))
  show wpAny _ _ (Builtin.Tuple.tupleItemsOf (.ref t) >>= _) _ _ s
  refine wpAny_bind (tupleItemsOf_ ht ?_)
  refine wpAny_bind (wpAny_typeOf hTs ?_)
  rw [if_pos (by decide)]
  refine wpAny_bind (sliceApplied_gen hs pl pu ?_)
  have hno : ¬ ((((sIx items.size 0 lo : Nat) : Int) == 0 && (1 : Int) == 1 && (sIx items.size items.size hi - sIx items.size 0 lo) == items.size) = true) := by
    intro q
    rw [Bool.and_eq_true, Bool.and_eq_true] at q
    have q1 : ((sIx items.size 0 lo : Nat) : Int) = 0 := eq_of_beq q.1.1
    have q2 : sIx items.size items.size hi - sIx items.size 0 lo = items.size := eq_of_beq q.2
    exact hw ⟨by omega, by omega⟩
  show wpAny _ _ (if (((sIx items.size 0 lo : Nat) : Int) == 0 && (1 : Int) == 1 && (sIx items.size items.size hi - sIx items.size 0 lo) == items.size) = true then _ else _) _ _ s
  rw [if_neg hno, pick_gen]
  first
    | exact wpAny_bind (m := Builtin.Tuple.tupleExact _) (wpAny_newObj_type (wpAny_pure ⟨_, rfl, wpAny_pure h⟩) htake)
    | exact wpAny_bind (m := Builtin.Tuple.tupleExact _) (wpAny_newObj_type (wpAny_bind (wpAny_pure (wpAny_pure ⟨_, rfl, wpAny_pure h⟩))) htake)
    | exact wpAny_bind (wpAny_bind (m := Builtin.Tuple.tupleExact _) (wpAny_newObj_type (wpAny_pure (wpAny_pure ⟨_, rfl, wpAny_pure h⟩)) htake))
    | exact wpAny_bind (wpAny_bind (m := Builtin.Tuple.tupleExact _) (wpAny_newObj_type (wpAny_pure ⟨_, rfl, wpAny_pure h⟩) htake))
end
end HT
namespace L2
open PySem PySem.Spec PyProof.Rows
abbrev TO := St → Hp → (Option Int → Hp → Prop) → Prop
def PO (X : Cx) (e : Option Expr) (t : TO) : Prop :=
  ∀ (pins : List (Addr × Obj)) (s : Shared) (σ : St) (H : Hp) (Q : Option Int → Hp → Prop), Inv X pins σ H s → t σ H Q →
    wpAny (model X.prog X.w) X.A (evalPart e X.env) (fun u s' => ∃ o H', Inv X pins σ H' s' ∧ IsPart u o ∧ Q o H') X.xe s
def tNoPart : TO := fun _ H Q => Q none H
def tPart (t : TE) : TO := fun σ H Q => t σ H fun x H1 => ∃ i, x = .int i ∧ Q (some i) H1
section
variable {X : Cx} {e : Expr} {te : TE} {lo hi : Option Expr} {tl th : TO} {pos p2 : Pos}
theorem po_none : PO X none tNoPart := by
  intro pins s σ H Q I h
  rw [evalPart_none]
  exact wpAny_pure ⟨none, H, I, .none, h⟩
theorem po_some (h : PE X e te) : PO X (some e) (tPart te) := by
  intro pins s σ H Q I hw
  rw [evalPart_some]
  refine thn (h pins s σ H _ I hw) fun u s1 ⟨x, H1, I1, r1, q1⟩ => ?_
  obtain ⟨i, rfl, q⟩ := q1
  obtain ⟨t, rfl⟩ := r1
  exact ⟨some i, H1, I1, .int i t, q⟩
def SlR (X : Cx) (r : V → Option Int → Option Int → Hp → VK → Prop) : Prop :=
  ∀ (pins : List (Addr × Obj)) (s : Shared) (σ : St) (H : Hp) (x : V) (v vl vu : Value) (lo hi : Option Int) (sl : Addr) (Q : VK), Inv X pins σ H s → RelV x v → s.heap.IsSliceOf sl vl vu .none → IsPart vl lo → IsPart vu hi → r x lo hi H Q →
    ∃ T id, typeLookup (.type T) "__getitem__" = pure (some (.builtin id)) ∧ s.TypeIs v T ∧ wpAny (model X.prog X.w) X.A (getItem v (.ref sl)) (EP X pins σ Q) X.xe s
def tSl (r : V → Option Int → Option Int → Hp → VK → Prop) (te : TE) (tl th : TO) : TE := fun σ H Q => te σ H fun x H1 => tl σ H1 fun l H2 => th σ H2 fun u H3 => r x l u H3 Q
theorem pe_slice {r : V → Option Int → Option Int → Hp → VK → Prop} (hr : SlR X r) (he : PE X e te) (hl : PO X lo tl) (hu : PO X hi th) : PE X (.Subscript e (.Slice lo hi none p2) pos) (tSl r te tl th) := by
  intro pins s σ H Q I h
  refine Subscript_ (thn (he pins s σ H _ I h) fun v s1 ⟨x, H1, I1, r1, q1⟩ => ?_)
  refine wpAny_Slice (thn (hl pins s1 σ H1 _ I1 q1) fun vl s2 ⟨l, H2, I2, pl, q2⟩ => thn (hu pins s2 σ H2 _ I2 q2) fun vu s3 ⟨u, H3, I3, pu, q3⟩ => ?_)
  rw [evalPart_none]
  refine wpAny_pure ?_
  have I4 : Inv X pins σ H3 { s3 with heap := s3.heap.push { cls := .type "slice", data := .fields #[vl, vu, .none] } } := I3.kept (t' := s3.toks) fun b ob q => Heap.get?_push_of_some _ q
  obtain ⟨T, id, hT, ht, hg⟩ := hr pins { s3 with heap := s3.heap.push { cls := .type "slice", data := .fields #[vl, vu, .none] } } σ H3 x v vl vu l u s3.heap.objs.size Q I4 r1 (Heap.IsSliceOf.new ..) pl pu q3
  show wpAny (model X.prog X.w) X.A (subscriptTail e (.Slice lo hi none p2) v (.ref s3.heap.objs.size)) (EP X pins σ Q) X.xe { s3 with heap := s3.heap.push { cls := .type "slice", data := .fields #[vl, vu, .none] } }
  exact tail_any (ops := [.ref s3.heap.objs.size, v]) ht hT hg (by with_unfolding_all rfl)
def cutV (xs : List V) (lo hi : Option Int) : List V := (xs.drop (HT.sIx xs.length 0 lo)).take (HT.sIx xs.length xs.length hi - HT.sIx xs.length 0 lo)
theorem cutV_length (xs : List V) (lo hi : Option Int) : (cutV xs lo hi).length ≤ xs.length := by
  unfold cutV
  rw [List.length_take, List.length_drop]
  omega
def rSlT (K : PySem.W.Frag) : V → Option Int → Option Int → Hp → VK → Prop := fun x lo hi H Q => ∃ a xs, x = .ref a ∧ SqT K H a xs ∧
  ¬ (HT.sIx xs.length 0 lo = 0 ∧ HT.sIx xs.length xs.length hi = xs.length) ∧ ∀ p, H p = none → Q (.ref p) (upd H p (.tup (cutV xs lo hi)))
theorem sl_tup : SlR X (rSlT X.K) := by
  intro pins s σ H x v vl vu lo hi sl Q I rx hs pl pu h
  obtain ⟨a, xs, rfl, hx, hw, q⟩ := h
  cases rx
  obtain ⟨its, r, ht, hz⟩ := I.tuple hx
  have hlen : its.toArray.size = xs.length := by rw [List.size_toArray]; exact r.length.symm
  refine ⟨"tuple", _, PyProof.Rows.slot_tuple_getitem.lookup, ht.typeIs, ?_⟩
  refine HT.getItem_tuple_cut ht hs pl pu (by rw [hlen]; exact hw) ?_ (by rw [hlen]; exact hz)
  rw [hlen]
  refine ⟨.ref s.heap.objs.size, _, I.laid (t' := s.toks) (o := .tup (cutV xs lo hi)) (fun b ob q => Heap.get?_push_of_some _ q) (Nat.le_refl _) ?_, rfl, q _ (I.hok.fresh (Nat.le_refl _))⟩
  exact ⟨Nat.le_trans (cutV_length xs lo hi) hz, _, (r.drop (HT.sIx xs.length 0 lo)).take (HT.sIx xs.length xs.length hi - HT.sIx xs.length 0 lo), IsTup.new _ _⟩
def rCatT (K : PySem.W.Frag) : R2 := fun x y H Q => ∃ a b xs ys, x = .ref a ∧ y = .ref b ∧ SqT K H a xs ∧ SqT K H b ys ∧ xs ≠ [] ∧ xs.length + ys.length ≤ sizeLine ∧
  (ys = [] → Q (.ref a) H) ∧ (ys ≠ [] → ∀ p, H p = none → Q (.ref p) (upd H p (.tup (xs ++ ys))))
theorem Vals.nil_iff {xs : List V} {us : List Value} (r : Vals xs us) : us = [] ↔ xs = [] := by
  cases r with
  | nil => simp
  | cons _ _ => simp
theorem op_catT : OpR X (binaryOp .Add) (rCatT X.K) := by
  intro pins s σ H x y v u Q I rx ry h
  obtain ⟨a, b, xs, ys, rfl, rfl, ha, hb, hx, hz, q1, q2⟩ := h
  cases rx
  cases ry
  obtain ⟨its, r1, p1, _⟩ := I.tuple ha
  obtain ⟨its2, r2, p2, _⟩ := I.tuple hb
  refine HT.cat_tup p1 p2 (fun z => hx (r1.nil_iff.mp z)) (fun z => ⟨.ref a, H, I, rfl, q1 (r2.nil_iff.mp z)⟩) (fun z => ?_) (by rw [← r1.length, ← r2.length]; exact hz)
  refine ⟨.ref s.heap.objs.size, _, I.laid (t' := s.toks) (o := .tup (xs ++ ys)) (fun b ob q => Heap.get?_push_of_some _ q) (Nat.le_refl _) ?_, rfl, q2 (fun w => z (r2.nil_iff.mpr w)) _ (I.hok.fresh (Nat.le_refl _))⟩
  exact ⟨by rw [List.length_append]; exact hz, _, r1.append r2, IsTup.new _ _⟩
end
end L2
namespace L2
open PySem PySem.Spec PyProof.Rows
def ixN (n : Nat) (i : Int) : Option Nat := if 0 ≤ i then (if i < n then some i.toNat else none) else if -(n : Int) ≤ i then some (i + n).toNat else none
def atI {α : Type} (xs : List α) (i : Int) : Option α := (ixN xs.length i).bind fun j => xs[j]?
theorem ixN_seq {n : Nat} {i : Int} {j : Nat} (h : ixN n i = some j) : seqIndex? i n = some j ∧ j < n ∧ -(n : Int) ≤ i ∧ i < n := by
  unfold ixN at h
  by_cases h0 : 0 ≤ i
  · rw [if_pos h0] at h
    by_cases h1 : i < n
    · rw [if_pos h1] at h
      have e : i.toNat = j := Option.some.inj h
      exact ⟨by rw [seqIndex_of h0 h1, e], by omega, by omega, h1⟩
    · rw [if_neg h1] at h; cases h
  · rw [if_neg h0] at h
    by_cases h1 : -(n : Int) ≤ i
    · rw [if_pos h1] at h
      have e : (i + n).toNat = j := Option.some.inj h
      exact ⟨by rw [seqIndex_neg (by omega) h1, e], by omega, h1, by omega⟩
    · rw [if_neg h1] at h; cases h
theorem atI_get {α : Type} {xs : List α} {i : Int} {v : α} (h : atI xs i = some v) : ∃ j, seqIndex? i xs.length = some j ∧ xs[j]? = some v ∧ j < xs.length ∧ -(xs.length : Int) ≤ i ∧ i < xs.length := by
  unfold atI at h
  cases e : ixN xs.length i with
  | none => rw [e] at h; cases h
  | some j =>
    rw [e] at h
    obtain ⟨h1, h2, h3, h4⟩ := ixN_seq e
    exact ⟨j, h1, h, h2, h3, h4⟩
theorem atI_nat {α : Type} {xs : List α} {j : Nat} {v : α} (h : xs[j]? = some v) : atI xs (j : Int) = some v := by
  have hj : j < xs.length := (List.getElem?_eq_some_iff.mp h).1
  have e : ixN xs.length (j : Int) = some j := by
    unfold ixN
    rw [if_pos (by omega), if_pos (by omega)]; simp
  unfold atI; rw [e]; exact h
def PlainIx (b : Expr) : Prop := ∀ o i, subscripted b false o i = operate [o, i] (getItem o i)
def IxR (X : Cx) (r : R2) : Prop :=
  ∀ (value slice : Expr) (pins : List (Addr × Obj)) (s : Shared) (σ : St) (H : Hp) (x y : V) (v u : Value) (Q : VK), Inv X pins σ H s → RelV x v → RelV y u → r x y H Q →
    subscripted slice false v u = operate [v, u] (getItem v u) → wpAny (model X.prog X.w) X.A (subscriptTail value slice v u) (EP X pins σ Q) X.xe s
def MtR (X : Cx) (id : String) (r : V → List V → Hp → VK → Prop) : Prop :=
  ∀ (pins : List (Addr × Obj)) (s : Shared) (σ : St) (H : Hp) (x : V) (xs : List V) (v : Value) (us : List Value) (Q : VK), Inv X pins σ H s → RelV x v → Vals xs us → r x xs H Q →
    wpAny (model X.prog X.w) X.A (call (.builtin id) (v :: us)) (EP X pins σ Q) X.xe s
section
variable {X : Cx} {a b : Expr} {ta tb : TE} {pos : Pos}
theorem pe_ix {r : R2} (hr : IxR X r) (ha : PE X a ta) (hb : PE X b tb) (hs : PlainIx b) : PE X (.Subscript a b pos) (tOp r ta tb) := by
  intro pins s σ H Q I h
  exact Subscript_ (binT ha hb I h fun v u s2 x y H2 I2 rx ry q => hr a b pins s2 σ H2 x y v u Q I2 rx ry q (hs _ _))
def rIxL (K : PySem.W.Frag) : R2 := fun x y H Q => ∃ p xs i v, x = .ref p ∧ y = .int i ∧ SqL K H p xs ∧ atI xs i = some v ∧ Q v H
def rIxT (K : PySem.W.Frag) : R2 := fun x y H Q => ∃ p xs i v, x = .ref p ∧ y = .int i ∧ SqT K H p xs ∧ atI xs i = some v ∧ Q v H
theorem ix_list : IxR X (rIxL X.K) := by
  intro value slice pins s σ H x y v u Q I rx ry h hs
  obtain ⟨p, xs, i, z, rfl, rfl, hq, he, q⟩ := h
  cases rx
  obtain ⟨t, rfl⟩ := ry
  obtain ⟨its, r, pl, hz⟩ := I.list hq
  obtain ⟨j, h1, h2, h3, h4, h5⟩ := atI_get he
  obtain ⟨w, ew, rw'⟩ := r.get h2
  have hl := r.length
  have hn := line63
  have fin : EP X pins σ Q w s := ⟨z, H, I, rw', q⟩
  by_cases h0 : 0 ≤ i
  · have hj : i.toNat = j := by
      rw [seqIndex_of h0 h5] at h1
      exact Option.some.inj h1
    exact item_listR pl.isList h0 (by omega) (by rw [hj]; simpa using ew) fin hs
  · have hj : (i + (its.toArray.size : Int)).toNat = j := by
      rw [seqIndex_neg (by omega) h4] at h1
      rw [List.size_toArray, ← hl]
      exact Option.some.inj h1
    exact subscriptTail_builtinR (x := w) pl.isList.typeIs slot_list_getitem.lookup
      (wpAny_getItem_list_neg (Q := fun r s' => r = w ∧ EP X pins σ Q r s') pl.isList (by omega) (by rw [List.size_toArray] <;> omega) (by omega) (by rw [hj]; simpa using ew) ⟨rfl, fin⟩) hs
theorem ix_tup : IxR X (rIxT X.K) := by
  intro value slice pins s σ H x y v u Q I rx ry h hs
  obtain ⟨p, xs, i, z, rfl, rfl, hq, he, q⟩ := h
  cases rx
  obtain ⟨t, rfl⟩ := ry
  obtain ⟨its, r, pl, hz⟩ := I.tuple hq
  obtain ⟨j, h1, h2, h3, h4, h5⟩ := atI_get he
  obtain ⟨w, ew, rw'⟩ := r.get h2
  have hl := r.length
  have hn := line63
  have fin : EP X pins σ Q w s := ⟨z, H, I, rw', q⟩
  exact subscriptTail_builtinR (x := w) pl.typeIs slot_tuple_getitem.lookup
    (getItem_tuple (j := j) (Q := fun r s' => r = w ∧ EP X pins σ Q r s') pl (by omega) (by omega) (by rw [List.size_toArray, ← hl]; exact h1) (by simpa using ew) ⟨rfl, fin⟩) hs
theorem mapSeq_set (its : List Value) (n j : Nat) (u : Value) : Obj.mapSeq (·.setIfInBounds j u) { cls := .type "list", data := .seq its.toArray n } = { cls := .type "list", data := .seq (its.set j u).toArray n } := by
  simp [Obj.mapSeq]
theorem Inv.lst {pins : List (Addr × Obj)} {σ : St} {H : Hp} {s : Shared} {p : Addr} {xs : List V} (I : Inv X pins σ H s) (h : H p = some (.lst xs)) :
    ∃ (its : List Value) (n : Nat), Vals xs its ∧ s.heap.get? p = some { cls := .type "list", data := .seq its.toArray n } ∧ xs.length ≤ sizeLine := by
  obtain ⟨z, its, n, r, e⟩ := I.hok p _ h
  exact ⟨its, n, r, e, z⟩
theorem Inv.lstUpd {pins : List (Addr × Obj)} {σ : St} {H : Hp} {s : Shared} {p : Addr} {xs ys : List V} {its its' : List Value} {n n' : Nat} {f : Obj → Obj} (I : Inv X pins σ H s) (h : H p = some (.lst xs))
    (ho : s.heap.get? p = some { cls := .type "list", data := .seq its.toArray n }) (hf : f { cls := .type "list", data := .seq its.toArray n } = { cls := .type "list", data := .seq its'.toArray n' }) (r : Vals ys its') (hz : ys.length ≤ sizeLine) (t : Nat) :
    Inv X pins σ (upd H p (.lst ys)) { s with heap := s.heap.update p f, toks := t } := by
  have e : (s.heap.update p f).get? p = some { cls := .type "list", data := .seq its'.toArray n' } := by
    rw [Heap.get?_update_self f ho (by rw [hf] <;> rfl), hf]
  refine I.write (x := p) (e := p) (by rw [h]; trivial) (.inl rfl) (fun b u hb q => (Heap.get?_update_other _ _ (Ne.symm hb)).trans q) ⟨_, e⟩ ?_
  exact ⟨hz, its', n', r, e⟩
def rSetL : V → V → V → Hp → (Hp → Prop) → Prop := fun o i v H Q => ∃ p xs k j, o = .ref p ∧ i = .int k ∧ H p = some (.lst xs) ∧ ixN xs.length k = some j ∧ Q (upd H p (.lst (xs.set j v)))
theorem set_list : PSet X rSetL := by
  intro pins s σ H o i v ov iv u Q I ro ri rv h
  obtain ⟨p, xs, k, j, rfl, rfl, hp, hj, q⟩ := h
  cases ro
  obtain ⟨t, rfl⟩ := ri
  obtain ⟨its, n, r, ho, hz⟩ := I.lst hp
  obtain ⟨h1, h2, h3, h4⟩ := ixN_seq hj
  have hl := r.length
  have hn := line63
  have I' : Inv X pins σ (upd H p (.lst (xs.set j v))) { s with heap := s.heap.update p (Obj.mapSeq (·.setIfInBounds j u)) } :=
    I.lstUpd hp ho (mapSeq_set its n j u) (r.set rv j) (by rw [List.length_set]; exact hz) s.toks
  by_cases h0 : 0 ≤ k
  · have hk : k.toNat = j := by
      rw [seqIndex_of h0 h4] at h1
      exact Option.some.inj h1
    exact PySem.W.ki_setAt ho h0 (by omega) (by rw [List.size_toArray, ← hl]; exact h4) (by rw [hk]; exact ⟨_, I', q⟩)
  · have hk : (k + (its.toArray.size : Int)).toNat = j := by
      rw [seqIndex_neg (by omega) h3] at h1
      rw [List.size_toArray, ← hl]
      exact Option.some.inj h1
    exact PySem.W.ki_setBack ho (by omega) (by rw [List.size_toArray, ← hl]; exact h3) (by omega) (by rw [hk]; exact ⟨_, I', q⟩)
theorem call_list_of : CallR X (.type "list") (fun xs H Q => ∃ p ys, xs = [.ref p] ∧ (SqL X.K H p ys ∨ SqT X.K H p ys) ∧ ∀ l, H l = none → Q (.ref l) (upd H l (.lst ys))) := by
  intro pins s σ H xs us Q I r h
  obtain ⟨p, ys, rfl, hq, q⟩ := h
  obtain ⟨u, rfl, rx⟩ := vals1 r
  cases rx
  have fin : ∀ (its : List Value), Vals ys its → ys.length ≤ sizeLine → ∀ (h' : Heap) (c' : Nat), (∀ b o', s.heap.get? b = some o' → h'.get? b = some o') →
      h'.get? s.heap.objs.size = some { cls := .type "list", dict := none, data := .seq its.toArray c', slots := #[] } → EP X pins σ Q (.ref s.heap.objs.size) { s with heap := h' } := fun its r' hz h' c' kp e =>
    ⟨.ref s.heap.objs.size, _, I.laid (t' := s.toks) kp (Nat.le_refl _) (show ObjOk X.prog X.w _ h' _ (.lst ys) from ⟨hz, its, c', r', e⟩), rfl, q _ (I.hok.fresh (Nat.le_refl _))⟩
  rcases hq with hq | hq
  · obtain ⟨its, r', pl, hz⟩ := I.list hq
    have hlen := r'.length
    obtain ⟨o, ho, hc, n, hd⟩ := pl.isList
    exact call_list_seq p (.inl rfl) ho hc hd (fun h' c' kp e => fin its r' hz h' c' kp e) (by simp only [List.size_toArray] <;> omega)
  · obtain ⟨its, r', pl, hz⟩ := I.tuple hq
    have hlen := r'.length
    obtain ⟨o, ho, hc, n, hd⟩ := pl
    exact call_list_seq p (.inr rfl) ho hc hd (fun h' c' kp e => fin its r' hz h' c' kp e) (by simp only [List.size_toArray] <;> omega)
def tyV (K : PySem.W.Frag) (T : String) (x : V) (H : Hp) : Prop := match x with
  | .str _ => T = "str"
  | .int _ => T = "int"
  | .ref p => (T = "list" ∧ ∃ xs, SqL K H p xs) ∨ (T = "tuple" ∧ ∃ o, K.lookup p = some o ∧ o.cls = .type "tuple" ∧ o.dict = none) ∨
      (T = "dict" ∧ ((∃ kvs, H p = some (.dK kvs)) ∨ ∃ kvs, H p = some (.dT kvs))) ∨ (T = "set" ∧ ∃ S n, H p = some (.set S n))
  | _ => False
theorem tyV_is {pins : List (Addr × Obj)} {σ : St} {H : Hp} {s : Shared} {T : String} {x : V} {v : Value} (I : Inv X pins σ H s) (r : RelV x v) (ty : tyV X.K T x H) :
    s.TypeIs v T ∧ ∀ a, v = .ref a → ∃ ob, s.heap.get? a = some ob ∧ ob.dict = none := by
  cases x with
  | str z =>
    obtain ⟨t, rfl⟩ := r
    cases (show T = "str" from ty)
    exact ⟨typeIs_str s z t, fun _ e => nomatch e⟩
  | int i =>
    obtain ⟨t, rfl⟩ := r
    cases (show T = "int" from ty)
    exact ⟨typeIs_int s i t, fun _ e => nomatch e⟩
  | ref p =>
    cases r
    rcases ty with ⟨rfl, xs, hq⟩ | ⟨rfl, o, hk, hc, hd⟩ | ⟨rfl, hk⟩ | ⟨rfl, S, n, hk⟩
    · obtain ⟨its, _, pl, _⟩ := I.list hq
      refine ⟨pl.isList.typeIs, fun a e => ?_⟩
      cases e
      obtain ⟨o, n, e, c, hd, _⟩ := pl
      exact ⟨o, e, hd⟩
    · refine ⟨⟨o, I.kIn p o hk, hc⟩, fun a e => ?_⟩
      cases e
      exact ⟨o, I.kIn _ o hk, hd⟩
    · have z : ∃ o, s.heap.get? p = some o ∧ o.ExactDict := by
        rcases hk with ⟨kvs, hk⟩ | ⟨kvs, hk⟩
        · obtain ⟨_, _, _, _, o, _, _, e, ex, _⟩ := I.hok p _ hk
          exact ⟨o, e, ex⟩
        · obtain ⟨_, _, _, _, o, _, _, e, ex, _⟩ := I.hok p _ hk
          exact ⟨o, e, ex⟩
      obtain ⟨o, e, ex⟩ := z
      refine ⟨⟨o, e, ex.1⟩, fun a e2 => ?_⟩
      cases e2
      exact ⟨o, e, ex.2.1⟩
    · obtain ⟨o, _, _, _, e, ex, _⟩ := I.hok p _ hk
      refine ⟨⟨o, e, ex.1⟩, fun a e2 => ?_⟩
      cases e2
      exact ⟨o, e, ex.2.1⟩
  | _ => exact False.elim ty
def tBM0 (K : PySem.W.Frag) (T : String) (r : V → List V → Hp → VK → Prop) (to : TE) : TE := fun σ H Q => to σ H fun x H1 => tyV K T x H1 ∧ r x [] H1 Q
def tBM (K : PySem.W.Frag) (T : String) (r : V → List V → Hp → VK → Prop) (to : TE) (t : TA) : TE := fun σ H Q => to σ H fun x H1 => tyV K T x H1 ∧ t σ H1 fun xs H2 => r x xs H2 Q
variable {o e : Expr} {es : List Expr} {to : TE} {t : TA} {name : Str} {apos cpos : Pos} {T id : String} {r : V → List V → Hp → VK → Prop}
theorem pe_bm0 (pa : PlainAttrs T) (slot : Slot T name id) (hty : typeOf (.builtin id) = pure (.type "method_descriptor")) (hm : MtR X id r) (ho : PE X o to)
    (hbase : attributeBase o name X.env (eval o X.env) = eval o X.env := by rfl) (hline : (apos.endLine == cpos.line) = true := by rfl) : PE X (.Call (.Attribute o name apos) [] [] cpos) (tBM0 X.K T r to) := by
  intro pins s σ H Q I h
  refine wpAny_Call_method0_late hbase hline (thn (ho pins s σ H _ I h) fun v s1 ⟨x, H1, I1, r1, ty, q1⟩ => ?_)
  obtain ⟨h1, h2⟩ := tyV_is I1 r1 ty
  exact ⟨T, id, pa, slot, hty, h1, h2, Calls.callWith_builtin rfl (PySem.evalArgs_none (hm pins s1 σ H1 x [] v [] Q I1 r1 .nil q1))⟩
theorem pe_bm (pa : PlainAttrs T) (slot : Slot T name id) (hty : typeOf (.builtin id) = pure (.type "method_descriptor")) (hm : MtR X id r) (ho : PE X o to) (ha : PA X (e :: es) t)
    (hbase : attributeBase o name X.env (eval o X.env) = eval o X.env := by rfl)
    (hfew : ((backTo cpos (starEach (e :: es) X.env)).all (fun x => !x.1) && (backToKw cpos (keywordEach [] X.env)).all (fun x => x.1.isSome)
      && decide ((e :: es).length + ([] : List Keyword).length + (if ([] : List Keyword).isEmpty then 0 else 1) < 30)) = true := by rfl)
    (hline : (apos.endLine == cpos.line) = true := by rfl) (hs : starEach (e :: es) X.env = (false, eval e X.env) :: starEach es X.env := by rfl) (hplain : (backTo cpos (starEach es X.env)).any (·.1) = false := by rfl) :
    PE X (.Call (.Attribute o name apos) (e :: es) [] cpos) (tBM X.K T r to t) := by
  intro pins s σ H Q I h
  refine wpAny_Call_method_late hbase hfew hline rfl (thn (ho pins s σ H _ I h) fun v s1 ⟨x, H1, I1, r1, ty, q1⟩ => ?_)
  obtain ⟨h1, h2⟩ := tyV_is I1 r1 ty
  refine ⟨T, id, pa, slot, hty, h1, h2, ?_⟩
  have hA := ha cpos pins s1 σ H1 _ I1 q1
  rw [hs] at hA ⊢
  refine Calls.callWith_builtin (by show (false || (backTo cpos (starEach es X.env)).any (·.1)) = false; rw [hplain] <;> rfl) (Calls.evalArgs_plain ?_)
  exact thn hA fun us s2 ⟨vs, H2, I2, r2, q2⟩ => hm pins s2 σ H2 x vs v us Q I2 r1 r2 q2
end
end L2
namespace L2
open PySem PySem.Spec PyProof.Rows
def MtM (X : Cx) (id : String) (r : V → List V → Hp → VK → Prop) : Prop :=
  ∀ (pins : List (Addr × Obj)) (s : Shared) (σ : St) (H : Hp) (x : V) (xs : List V) (v : Value) (us : List Value) (Q : VK), Inv X pins σ H s → RelV x v → Vals xs us → r x xs H Q →
    wpAny (model X.prog X.w) X.A (call (.builtin id) (v :: us)) (EP X pins σ Q) X.xe s
theorem Vals.one : ∀ {x : V} {us : List Value}, Vals [x] us → ∃ u, us = [u] ∧ RelV x u
  | _, _, .cons r .nil => ⟨_, rfl, r⟩
section
variable {X : Cx} {pins : List (Addr × Obj)} {σ : St} {H : Hp} {s : Shared} {l b : Addr} {xs ys zs : List V}
theorem Inv.lset {its its' : List Value} {n : Nat} {f : Array Value → Array Value} {t' : Nat} (I : Inv X pins σ H s) (hH : H l = some (.lst xs))
    (e : s.heap.get? l = some { cls := .type "list", data := .seq its.toArray n }) (hf : f its.toArray = its'.toArray) (hv : Vals ys its') (hz : ys.length ≤ sizeLine) :
    Inv X pins σ (upd H l (.lst ys)) { s with heap := s.heap.update l (Obj.mapSeq f), toks := t' } := by
  have q := PySem.IsL.update e f
  rw [hf] at q
  refine I.write (x := l) (e := l) (by rw [hH]; exact trivial) (.inl rfl) (fun b' u hb hu => (Heap.get?_update_other s.heap (Obj.mapSeq f) (Ne.symm hb)).trans hu) ⟨_, q⟩ ?_
  exact ⟨hz, its', _, hv, q⟩
theorem Inv.lnew {its : List Value} {t' : Nat} (I : Inv X pins σ H s) (hv : Vals ys its) (hz : ys.length ≤ sizeLine) :
    Inv X pins σ (upd H s.heap.objs.size (.lst ys)) { s with heap := s.heap.push { cls := .type "list", data := .seq its.toArray }, toks := t' } :=
  I.laid (fun _ _ q => Heap.get?_push_of_some _ q) (Nat.le_refl _) ⟨hz, its, 0, hv, Heap.get?_push_size _ rfl⟩
theorem Inv.fresh (I : Inv X pins σ H s) : H s.heap.objs.size = none := I.hok.fresh (Nat.le_refl _)
theorem Inv.lstM (I : Inv X pins σ H s) (hH : H l = some (.lst xs)) : xs.length ≤ sizeLine ∧ ∃ (its : List Value) (n : Nat), Vals xs its ∧ xs.length = its.length ∧ s.heap.get? l = some { cls := .type "list", data := .seq its.toArray n } := by
  obtain ⟨z, its, n, r, e⟩ := I.hok l _ hH
  exact ⟨z, its, n, r, r.length, e⟩
end
section
variable {X : Cx}
def rAppend : V → List V → Hp → VK → Prop := fun x vs H Q => ∃ l xs y, x = .ref l ∧ vs = [y] ∧ H l = some (.lst xs) ∧ xs.length < sizeLine ∧ Q .non (upd H l (.lst (xs ++ [y])))
theorem mt_append : MtM X "list.append" rAppend := by
  intro pins s σ H x vs v us Q I rx rv h
  obtain ⟨l, xs, y, rfl, rfl, hH, hz, q⟩ := h
  cases rx
  obtain ⟨u, rfl, ru⟩ := rv.one
  obtain ⟨z, its, n, r, hl, e⟩ := I.lstM hH
  refine call_meets F.slot_list_append ⟨_, e, rfl⟩ F.entry_list_append (F.args_list_append_2 _ _) (PySem.list_append l its.toArray n u (by rw [List.size_toArray]; omega)) ⟨e, ?_⟩
  refine ⟨.non, _, I.lset (its' := its ++ [u]) hH e (by simp) (r.append (.cons ru .nil)) ?_, rfl, q⟩
  rw [List.length_append, List.length_singleton]
  omega
def rCat : R2 := fun x y H Q => ∃ l b xs zs, x = .ref l ∧ y = .ref b ∧ H l = some (.lst xs) ∧ H b = some (.lst zs) ∧ xs.length + zs.length ≤ sizeLine ∧ ∀ p, H p = none → Q (.ref p) (upd H p (.lst (xs ++ zs)))
theorem op_cat : OpR X (binaryOp .Add) rCat := by
  intro pins s σ H x y v u Q I rx ry h
  obtain ⟨l, b, xs, zs, rfl, rfl, hH, hB, hz, q⟩ := h
  cases rx
  cases ry
  obtain ⟨z, its, n, r, hl, e⟩ := I.lstM hH
  obtain ⟨z2, its2, n2, r2, hl2, e2⟩ := I.lstM hB
  refine PySem.P.add_list e e2 ?_ (by rw [List.size_toArray, List.size_toArray]; omega)
  have ea : its.toArray ++ its2.toArray = (its ++ its2).toArray := by simp
  rw [ea]
  exact ⟨.ref _, _, I.lnew (t' := s.toks) (r.append r2) (by rw [List.length_append]; omega), rfl, q _ I.fresh⟩
end
section
variable {prog : Program} {w : World} {A : Around} {E : Value → Shared → Prop} {s : Shared}
end
section
variable {X : Cx}
end
end L2
namespace Att
open PySem PySem.W PySem.Calls PyProof.Rows
theorem ints_of_wellAll {P : Params} {h : Heap} : ∀ (ns : List Int) (vs : List Value), WellAll P h vs (ns.map WData.int) → IntsAre vs ns := by
  intro ns
  induction ns with
  | nil =>
    intro vs w
    rw [List.map_nil] at w
    cases w
    exact .nil
  | cons n ns ih =>
    intro vs w
    rw [List.map_cons] at w
    cases w with
    | cons a b =>
      cases a
      exact .cons _ _ (ih _ b)
theorem script_of {l : OpenLaw} {n : Nat} (hn : l.most = some n) {P : Params} {h : Heap} {args : List WData} {vals : List Value}
    (hpre : l.row.toRowW.claim.pre args = true) (hwl : WellAll P h vals args) :
    ∃ a vs ns, vals = [Value.ref a] ∧ args = [WData.list (ns.map WData.int)] ∧ h.get? a = some { cls := .type "list", data := .seq vs.toArray } ∧ IntsAre vs ns ∧ ns.length ≤ n := by
  have hsh : WShape.hasAll [] args [.list .int] = true := (pre_splitW hpre).1
  have hc : l.pre.holds [] { args := args } = true := (pre_splitW hpre).2
  obtain ⟨d, r, rfl, h1, h2⟩ := hasAllW_cons hsh
  obtain rfl := hasAllW_nil h2
  obtain ⟨xs, rfl, h3⟩ := hasW_list h1
  obtain ⟨ns, rfl⟩ := items_int h3
  have hlen : ns.length ≤ n := by
    unfold OpenLaw.pre at hc
    have h4 : (WTm.not (.lt (.lit (.int (n : Int))) (.len (.arg 0)))).holds [] { args := [.list (ns.map .int)] } = true := by
      have h4 := (holds_andW hc).1
      rw [hn] at h4
      exact h4
    have h5 := condW_of h4 (w_not (w_lt w_lit (w_len_list (w_arg rfl))))
    rw [List.length_map] at h5
    refine Nat.le_of_not_lt fun q => ?_
    have q' : (n : Int) < ((ns.length : Nat) : Int) := by omega
    first
      | (rw [decide_eq_true q'] at h5; exact absurd h5 (by decide))
      | (simp at h5; omega)
  cases hwl with
  | cons w1 w2 =>
    cases w2
    cases w1 with
    | list ho hall => exact ⟨_, _, ns, rfl, rfl, ho, ints_of_wellAll ns _ hall, hlen⟩
theorem post_true (l : OpenLaw) (args : List WData) : l.row.toRowW.claim.post args (.bool true) args = true :=
  postW_of (r := l.row.toRowW) (X := (true == true))
    (show WShape.has [] (.bool true) .bool = true by first | rfl | decide | simp [WShape.has, WShape.arms, WShape.armsAll])
    (show (WTm.eq .res (.lit (.bool true))).value [] { args := args, res := some (.bool true), after := args } = some (.bool (true == true)) from w_eq_bool (w_res rfl) w_lit) rfl
section
variable {prog : Program} {w : World} {A : Around} {E : Value → Shared → Prop} {s : Shared} {K : Frag}
end
end Att
namespace L2
open PySem PySem.Spec PyProof.Rows
theorem vals_ints : ∀ {vs : List Value} {ns : List Int}, IntsAre vs ns → Vals (ns.map V.int) vs
  | _, _, .nil => .nil
  | _, _, .cons n t h => .cons ⟨t, rfl⟩ (vals_ints h)
def Only (H : Hp) : Prop := ∀ b, H b = none ∨ ∃ o xs, H b = some (.frz o (.lst xs))
theorem law_call {P : Program} {w : World} {K : PySem.W.Frag} {mg mb : Str → Option Value} {CX : CXT} {k : Nat} {fa a : Addr} {fd : FuncData} {x : Str} {sp : Sp} {s₁ : Shared} {vs : List Value} {ns : List Int}
    (KX : K.In s₁.heap) (hns : s₁.heap.Ns mainGlobals mg) (hb : s₁.heap.Ns builtinsNs mb) (hbb : ∀ x : Str, x ≠ "__name__" → mb x = bootBuiltins x) (hlim : s₁.heap.NoLimit) (hg : s₁.gens = #[])
    (ha : s₁.heap.get? a = some { cls := .type "list", data := .seq vs.toArray }) (hi : IntsAre vs ns) (hl : ns.length ≤ sizeLine) (hr : Room k callerA)
    (F : ∀ base : Heap, K.In base → base.Ns mainGlobals mg → FnOk P w K mg base CX k fa fd [x] sp) (hbind : ∀ (s : Shared) (u : Value), BindsTo s fd ⟨[u], []⟩ [(x, u)])
    (hsp : ∀ H : Hp, Only H → SqL K H a (ns.map V.int) → sp [.ref a] H (fun v _ => v = .bl true) fun _ _ _ => False)
    (hCX : ∀ H e s', CX [] H s₁ (fun _ _ _ => False) e s' → False) :
    codeAny (model P w) callerA (.call (.ref fa) ⟨[.ref a], []⟩) (fun r s' => r = .ok (.ret (.bool true)) ∧ OldK s₁.heap s'.heap ∧ s'.os = s₁.os ∧ AllBare s'.gens) s₁ := by
  have rv := vals_ints hi
  have lenV := hi.length
  have core : ∀ H : Hp, Only H → SqL K H a (ns.map V.int) → HOk P w H s₁.heap → (∀ b, H b ≠ none → b = a) → (H a ≠ none → K.lookup a = none) →
      codeAny (model P w) callerA (.call (.ref fa) ⟨[.ref a], []⟩) (fun r s' => r = .ok (.ret (.bool true)) ∧ OldK s₁.heap s'.heap ∧ s'.os = s₁.os ∧ AllBare s'.gens) s₁ := by
    intro H hO hS hok hA hK
    have base_of : ∀ {b : Addr} {o : Obj}, s₁.heap.get? b = some o → H b = none → (hidT s₁.heap H).get? b = some o := fun e n => hidT_get e n
    have noA : ∀ {b : Addr} {o : Obj} {es : Array DictEntry} {ep : Nat}, s₁.heap.get? b = some o → o.data = .dict es ep → H b = none := fun {b o es ep} e d => by
      cases q : H b with
      | none => rfl
      | some u =>
        have e' : b = a := hA b (by rw [q]; simp)
        subst e'
        rw [ha] at e; cases e
        have d' : Data.seq vs.toArray _ = Data.dict es ep := d
        cases d'
    have nsK : ∀ {b : Addr} {m : Str → Option Value}, s₁.heap.Ns b m → (hidT s₁.heap H).Ns b m := fun {b m} ⟨o, es, ep, e, d, r⟩ => ⟨o, es, ep, base_of e (noA e d), d, r⟩
    have hKb : K.In (hidT s₁.heap H) := fun b o e => base_of (KX b o e) (by
      cases q : H b with
      | none => rfl
      | some u =>
        have e' : b = a := hA b (by rw [q]; simp)
        subst e'
        rw [hK (by rw [q]; simp)] at e; cases e)
    have hM : Mod K mg (hidT s₁.heap H) := ⟨hKb, nsK hns, ⟨mb, nsK hb, hbb⟩, let ⟨mc, h1, h2⟩ := hlim; ⟨mc, nsK h1, h2⟩⟩
    have e0 : Env0 P w K mg (hidT s₁.heap H) callerA [] s₁ H := ⟨rfl, hM, fun b o e => of_hidT e, Nat.le_of_eq (hidT_size _ _), trivial, fun b hb => absurd (show b ∈ ([] : List Addr) from hb) (by simp), hok, .of_eq hg⟩
    refine codeAny_mono ((F _ hKb (nsK hns)).run callerA [] s₁ H ⟨[.ref a], []⟩ [.ref a] [.ref a] _ _ hr e0 (hbind s₁ (.ref a)) (.cons rfl .nil) (hsp H hO hS)) fun r s' h => ?_
    cases r with
    | error e => exact (hCX H e s' h).elim
    | ok fl =>
      cases fl with
      | next => exact False.elim h
      | brk => exact False.elim h
      | cont => exact False.elim h
      | ret u =>
        obtain ⟨v, H', os, bare, un, hok', r', q⟩ := h
        have q' : v = .bl true := q
        subst q'
        obtain rfl : u = Value.bool true := r'
        refine ⟨rfl, OldK.of_keep fun b o e => ?_, os, bare⟩
        cases q : H b with
        | none => exact un.keep b o e q (by intro z; exact absurd (show b ∈ ([] : List Addr) from z) (by simp)) (by simp)
        | some u =>
          rcases hO b with z | ⟨ob, xs, z⟩
          · rw [q] at z; cases z
          · have z2 := un.frzs b ob _ z
            obtain ⟨e1, _⟩ := hok b _ z
            obtain ⟨e2, _⟩ := hok' b _ z2
            rw [e] at e1; cases e1
            exact e2
  cases hk : K.lookup a with
  | some o =>
    have e := KX a o hk
    rw [ha] at e
    cases e
    refine core (fun _ => none) (fun _ => .inl rfl) (.inr ⟨_, vs.toArray, _, hk, rfl, rfl, rfl, by rw [List.size_toArray, lenV]; exact hl, by simpa using rv⟩) (fun b u z => by have z' : (none : Option HO) = some u := z; cases z') (fun b z => absurd rfl z) fun z => absurd rfl z
  | none =>
    refine core (fun b => if b = a then some (.frz { cls := .type "list", data := .seq vs.toArray } (.lst (ns.map V.int))) else none) (fun b => ?_) (.inl (.inr ⟨{ cls := .type "list", data := .seq vs.toArray }, if_pos rfl⟩)) (fun b u z => ?_) (fun b z => ?_) fun _ => hk
    · by_cases hb : b = a
      · exact .inr ⟨_, _, if_pos hb⟩
      · exact .inl (if_neg hb)
    · by_cases hb : b = a
      · have z' := (if_pos hb).symm.trans z
        cases z'
        subst hb
        exact ⟨ha, by rw [List.length_map]; exact hl, vs, _, rv, ha⟩
      · have z' := (if_neg hb).symm.trans z
        cases z'
    · by_cases hb : b = a
      · exact hb
      · exact absurd (if_neg hb) z
end L2
namespace L2
open PySem PySem.Spec PyProof.Rows
end L2
namespace L2
open PySem PySem.Spec PyProof.Rows
def defArgs (s : Stmt) : Arguments := match s with
  | .FunctionDef _ a _ _ _ _ _ _ _ _ => a
  | _ => { posonlyargs := [], args := [], vararg := none, kwonlyargs := [], kw_defaults := [], kwarg := none, defaults := [] }
def defBody (s : Stmt) : List Stmt := match s with
  | .FunctionDef _ _ b _ _ _ _ _ _ _ => b
  | _ => []
def defScope (s : Stmt) : Scope := match s with
  | .FunctionDef _ _ _ _ _ _ sc _ _ _ => sc
  | _ => { kind := .function, names := [], isGenerator := false, isCoroutine := false }
abbrev E0 : XK := fun _ _ _ => False
section
variable {P : Program} {w : World} {K : PySem.W.Frag} {mg : Str → Option Value} {base : Heap}
end
section
variable {X : Cx}
theorem pv (i : Nat) {x : Str} {pos : Pos} (hN : X.N[i]? = some x := by rfl) (hv : Vis X.env.scope x := by first | exact Or.inl rfl | exact Or.inr (Or.inl rfl) | exact Or.inr (Or.inr rfl)) (hd : (x == ("__debug__" : Str)) = false := by decide)
    (hcd : (x == ("__classdict__" : Str)) = false := by decide) : PE X (.Name x pos) (tVar i) := pe_var hN hv hd hcd
end
theorem iteF {A B : Prop} (h : B) : if false = true then A else B := by
  rw [if_neg Bool.false_ne_true]
  exact h
theorem iteT {A B : Prop} (h : A) : if true = true then A else B := by
  rw [if_pos rfl]
  exact h
theorem iteNS {c A B : Prop} [Decidable c] (hc : c) (h : B) : if (!decide c) = true then A else B := by
  rw [decide_eq_true hc]
  exact iteF h
def Same (H H' : Hp) : Prop := ∀ b o, H b = some o → H' b = some o
theorem Same.refl (H : Hp) : Same H H := fun _ _ h => h
theorem Same.trans {H H1 H2 : Hp} (a : Same H H1) (b : Same H1 H2) : Same H H2 := fun c o h => b c o (a c o h)
theorem Same.seq {K : PySem.W.Frag} {H H' : Hp} {a : Addr} {xs : List V} (e : Same H H') (h : SqL K H a xs) : SqL K H' a xs := by
  rcases h with (h | ⟨o, h⟩) | h
  · exact .inl (.inl (e _ _ h))
  · exact .inl (.inr ⟨o, e _ _ h⟩)
  · exact .inr h
end L2
set_option maxRecDepth 100000
namespace Kw
theorem gcd_step (g s : Int) (hg : 0 ≤ g) (hs : 0 < s) : Int.gcd s (g % s) = Int.gcd g s := by
  obtain ⟨m, rfl⟩ := Int.eq_ofNat_of_zero_le hg
  obtain ⟨n, rfl⟩ := Int.eq_ofNat_of_zero_le (Int.le_of_lt hs)
  have e : ((m : Int) % (n : Int)) = ((m % n : Nat) : Int) := by omega
  rw [e]
  show Nat.gcd n (m % n) = Nat.gcd m n
  rw [Nat.gcd_comm m n, Nat.gcd_rec n m, Nat.gcd_comm]
theorem gcd_abs (a b : Int) : Int.gcd (if a < 0 then -a else a) (if b < 0 then -b else b) = Int.gcd a b := by
  have e : ∀ x : Int, (if x < 0 then -x else x).natAbs = x.natAbs := fun x => by split <;> omega
  show Nat.gcd _ _ = Nat.gcd _ _
  rw [e, e]
theorem gcd_end (g : Int) (hg : 0 ≤ g) : ((Int.gcd g 0 : Nat) : Int) = g := by
  show ((Nat.gcd g.natAbs 0 : Nat) : Int) = g
  rw [Nat.gcd_zero_right]; omega
theorem abs_nn (a : Int) : 0 ≤ (if a < 0 then -a else a) := by split <;> omega
def dv (t b : Int) : Int := if b < 0 then -((Int.gcd t b : Nat) : Int) else ((Int.gcd t b : Nat) : Int)
def fT (t b : Int) : Int := t.fdiv (dv t b)
def fB (t b : Int) : Int := b.fdiv (dv t b)
theorem dv_ne {t b : Int} (h : b ≠ 0) : dv t b ≠ 0 := by
  have hp : 0 < Int.gcd t b := Int.gcd_pos_of_ne_zero_right _ h
  unfold dv; split <;> omega
theorem dv_le {t b : Int} (h : b ≠ 0) : (dv t b).natAbs ≤ b.natAbs := by
  have hd : Int.gcd t b ∣ b.natAbs := Nat.gcd_dvd_right _ _
  have := Nat.le_of_dvd (by omega) hd
  unfold dv; split <;> omega
theorem dv_dvd_b (t b : Int) : dv t b ∣ b := by
  have h : ((Int.gcd t b : Nat) : Int) ∣ b := Int.gcd_dvd_right ..
  unfold dv; split
  · exact (Int.neg_dvd).mpr h
  · exact h
theorem dv_dvd_t (t b : Int) : dv t b ∣ t := by
  have h : ((Int.gcd t b : Nat) : Int) ∣ t := Int.gcd_dvd_left ..
  unfold dv; split
  · exact (Int.neg_dvd).mpr h
  · exact h
theorem fT_mul (t b : Int) : dv t b * fT t b = t := by
  unfold fT
  exact Int.mul_fdiv_cancel' (dv_dvd_t t b)
theorem fB_mul (t b : Int) : dv t b * fB t b = b := by
  unfold fB
  exact Int.mul_fdiv_cancel' (dv_dvd_b t b)
theorem fB_pos {t b : Int} (h : b ≠ 0) : 0 < fB t b := by
  have e := fB_mul t b
  have hn := dv_ne (t := t) h
  have hg : 0 ≤ ((Int.gcd t b : Nat) : Int) := Int.natCast_nonneg _
  rcases Int.lt_or_gt_of_ne h with hb | hb
  · have hd : dv t b < 0 := by unfold dv at hn ⊢; rw [if_pos hb] at hn ⊢; omega
    refine Int.not_le.mp fun q => ?_
    have := Int.mul_nonneg_of_nonpos_of_nonpos (Int.le_of_lt hd) q
    omega
  · have hd : 0 < dv t b := by unfold dv at hn ⊢; rw [if_neg (by omega)] at hn ⊢; omega
    refine Int.not_le.mp fun q => ?_
    have := Int.mul_nonpos_of_nonneg_of_nonpos (Int.le_of_lt hd) q
    omega
theorem natAbs_le_mul {d x : Int} (h : d ≠ 0) : x.natAbs ≤ (d * x).natAbs := by
  rw [Int.natAbs_mul]
  exact Nat.le_mul_of_pos_left _ (by omega)
theorem fT_le {t b : Int} (h : b ≠ 0) : (fT t b).natAbs ≤ t.natAbs := by
  have q := natAbs_le_mul (x := fT t b) (dv_ne (t := t) h)
  rw [fT_mul] at q; exact q
theorem fB_le {t b : Int} (h : b ≠ 0) : (fB t b).natAbs ≤ b.natAbs := by
  have q := natAbs_le_mul (x := fB t b) (dv_ne (t := t) h)
  rw [fB_mul] at q; exact q
end Kw
set_option Elab.async false
set_option linter.all false
set_option maxRecDepth 100000
set_option maxHeartbeats 4000000
namespace Kw
open PySem PySem.Spec PyProof.Rows L2
def But (b : Addr) (H H' : Hp) : Prop := ∀ a o, a ≠ b → H a = some o → H' a = some o
theorem But.refl {b : Addr} (H : Hp) : But b H H := fun _ _ _ h => h
theorem But.trans {b : Addr} {H H1 H2 : Hp} (x : But b H H1) (y : But b H1 H2) : But b H H2 := fun a o n h => y a o n (x a o n h)
theorem But.of {b : Addr} {H H' : Hp} (x : Same H H') : But b H H' := fun a o _ h => x a o h
theorem same_new {H : Hp} {p : Addr} (h : H p = none) (o : HO) : Same H (upd H p o) := fun b u q => by rw [upd_ne (ne_of_none q h)]; exact q
theorem but_upd {H : Hp} {p : Addr} (o : HO) : But p H (upd H p o) := fun b u n q => by rw [upd_ne n]; exact q
theorem Same.tup {K : PySem.W.Frag} {H H' : Hp} {a : Addr} {xs : List V} (e : Same H H') (h : SqT K H a xs) : SqT K H' a xs := by
  rcases h with (h | ⟨o, h⟩) | h
  · exact .inl (.inl (e _ _ h))
  · exact .inl (.inr ⟨o, e _ _ h⟩)
  · exact .inr h
theorem But.tup {K : PySem.W.Frag} {H H' : Hp} {b a : Addr} {ys xs : List V} (e : But b H H') (hb : H b = some (.lst ys)) (h : SqT K H a xs) : SqT K H' a xs := by
  rcases h with (h | ⟨o, h⟩) | h
  · exact .inl (.inl (e _ _ (ne_of h hb (by intro z; cases z)) h))
  · exact .inl (.inr ⟨o, e _ _ (ne_of h hb (by intro z; cases z)) h⟩)
  · exact .inr h
theorem But.seq {K : PySem.W.Frag} {H H' : Hp} {b a : Addr} {xs : List V} (e : But b H H') (n : a ≠ b) (h : SqL K H a xs) : SqL K H' a xs := by
  rcases h with (h | ⟨o, h⟩) | h
  · exact .inl (.inl (e _ _ n h))
  · exact .inl (.inr ⟨o, e _ _ n h⟩)
  · exact .inr h
section
variable {σ : L2.St} {H : Hp} {Q : VK} {v : V} {i j : Int} {K : PySem.W.Frag} {p : Addr} {xs : List V}
theorem rd_new {R : V → Hp → Prop} {o : HO} (h : ∀ p H', Same H H' → H' p = some o → R (.ref p) H') : ∀ p, H p = none → R (.ref p) (upd H p o) := fun p hp => h p _ (same_new hp o) upd_same
end
theorem if_cases {c : Bool} {A B : Prop} (h1 : c = true → A) (h2 : c = false → B) : if c = true then A else B := by
  cases c
  · exact iteF (h2 rfl)
  · exact iteT (h1 rfl)
theorem if_dec {c : Prop} [Decidable c] {A B : Prop} (h1 : c → A) (h2 : ¬ c → B) : if decide c = true then A else B :=
  if_cases (fun e => h1 (of_decide_eq_true e)) (fun e => h2 (of_decide_eq_false e))
theorem if_decI {i j : Int} {A B : Prop} (h1 : i = j → A) (h2 : i ≠ j → B) : if decide (V.int i = V.int j) = true then A else B :=
  if_dec (fun e => h1 (V.int.inj e)) (fun e => h2 fun z => e (congrArg V.int z))
theorem if_neI {i j : Int} {A B : Prop} (h1 : i ≠ j → A) (h2 : i = j → B) : if (!decide (V.int i = V.int j)) = true then A else B := by
  by_cases e : i = j
  · rw [show decide (V.int i = V.int j) = true by simp [e]]; exact iteF (h2 e)
  · rw [show decide (V.int i = V.int j) = false by simp [e]]; exact iteT (h1 e)
section
variable {X : Cx} {a b c : Expr} {ta tb tc : TE} {pos : Pos}
def CDivB (_ j : Int) : Prop := j ≠ 0 ∧ j.natAbs.log2 < 9000
theorem op_fdivB : OpR X (binaryOp .FloorDiv) (rI CDivB fun i j => .int (i.fdiv j)) := opI fun _ _ _ _ _ _ _ hc q => floordiv_int hc.1 q (.inl (PyProof.noPylong_of_log2 hc.2))
theorem op_mulB : OpR X (binaryOp .Mult) (rI IntMulOk fun i j => .int (i * j)) := opI fun _ _ _ _ _ _ _ hc q => mul_int q hc
theorem call_divmodB : CallR X (.builtin "divmod") (fun xs H Q => ∃ i j, xs = [.int i, .int j] ∧ (0 < j ∧ j.natAbs.log2 < 9000) ∧ ∀ p, H p = none → Q (.ref p) (upd H p (.tup [.int (i / j), .int (i % j)]))) := by
  intro pins s σ H xs us Q I r h
  obtain ⟨i, j, rfl, ⟨h1, h2⟩, q⟩ := h
  obtain ⟨u, w', rfl, ⟨t, rfl⟩, ⟨t', rfl⟩⟩ := vals2 r
  refine divmod_int (by omega) ?_ (.inl (PyProof.noPylong_of_log2 h2))
  rw [Int.fdiv_eq_ediv_of_nonneg i (by omega), Int.fmod_eq_emod_of_nonneg i (by omega)]
  have hn : H s.heap.objs.size = none := I.hok.fresh (Nat.le_refl _)
  refine ⟨.ref s.heap.objs.size, _, ?_, rfl, q _ hn⟩
  refine I.laid (fun b o e => Heap.get?_push_of_some _ e) (Nat.le_refl _) ⟨by simp only [List.length_cons, List.length_nil]; rw [sizeLine_eq]; decide, [.int (i / j) s.toks, .int (i % j) (s.toks + 1)], .cons ⟨_, rfl⟩ (.cons ⟨_, rfl⟩ .nil), ?_⟩
  exact ⟨_, Heap.get?_push_size s.heap rfl, rfl, 0, rfl⟩
theorem pe_globI {x : Str} {i : Int} {pos : Pos} (hg : Gl X x) (hm : ∃ t, X.mg x = some (.int i t)) (hd : (x == ("__debug__" : Str)) = false := by decide) (hcd : (x == ("__classdict__" : Str)) = false := by decide) : PE X (.Name x pos) (tC (.int i)) := by
  obtain ⟨t, hm⟩ := hm
  exact pe_glob hg hm ⟨t, rfl⟩ hd
theorem pe_bty {x : Str} {T : String} {pos : Pos} (hg : Gl X x) (hm : X.mg x = none) (hv : bootBuiltins x = some (.type T)) (hn : x ≠ "__name__" := by decide) (hd : (x == ("__debug__" : Str)) = false := by decide) : PE X (.Name x pos) (tC (.ty T)) :=
  pe_bltn hg hm hv (v := .ty T) rfl hn hd
def valC : V → Value
  | .ty T => .type T
  | .ref C => .ref C
  | _ => .none
def IsI (K : PySem.W.Frag) (H : Hp) (x c : V) (b : Bool) : Prop := ∃ t, TyOf K H x t ∧ PySem.W.kitOne K t (valC c) = some b
theorem call_isinst : CallR X (.builtin "isinstance") (fun xs H Q => ∃ x c b, xs = [x, c] ∧ ((∃ T, c = .ty T) ∨ ∃ C, c = .ref C) ∧ IsI X.K H x c b ∧ Q (.bl b) H) := by
  intro pins s σ H xs us Q I r h
  obtain ⟨x, c, b, rfl, hc, ⟨t, ty, e⟩, q⟩ := h
  obtain ⟨u, w', rfl, rx, rc⟩ := vals2 r
  have ec : w' = valC c := by
    rcases hc with ⟨T, rfl⟩ | ⟨C, rfl⟩
    · exact rc
    · exact rc
  subst ec
  exact isinst_ok I rx ty e fun tk => ⟨.bl b, H, I.tok _, rfl, q⟩
end
end Kw
set_option Elab.async false
set_option linter.all false
set_option maxRecDepth 100000
set_option maxHeartbeats 4000000
namespace Kw
open PySem PySem.Spec PyProof.Rows L2
section
variable {M : Model} {A : Around} {E : Value → Shared → Prop} {s : Shared} {bs : Heap} {l up : List Env} {env : Env} {x L : Addr} {c : Value} {od : Option Addr} {a0 fl : Value} {Q : Unit → Shared → Prop}
end
end Kw
set_option Elab.async false
set_option linter.all false
set_option maxRecDepth 100000
set_option maxHeartbeats 4000000
namespace Kw
open PySem PySem.Spec PyProof.Rows L2
structure FlyAt (H : Hp) (h0 h : Heap) (x : Addr) (C : Value) (od : Option Addr) : Prop where
  new : h0.get? x = none
  free : H x = none
  tr : ∃ oe vs a0 T oT ts, h.get? x = some oe ∧ oe.cls = C ∧ oe.dict = od ∧ oe.data = .fields vs ∧ vs[0]? = some a0 ∧ vs[1]? = some (.ref T) ∧ h0.get? T = none ∧ H T = none ∧ T ≠ x ∧ h.get? T = some oT ∧ oT.data = .fields ts ∧ ts[3]? = some .none
def CXE (P : Program) (w : World) : CXT := fun outer H s E e s' =>
  ∃ (x : Addr) (C : Value) (od : Option Addr) (H' : Hp), e = .ref x ∧ s'.os = s.os ∧ AllBare s'.gens ∧ Un (frs outer) [] H H' s.heap s'.heap ∧ HOk P w H' s'.heap ∧ FlyAt H' s.heap s'.heap x C od ∧ E C od H'
theorem passE0 {P : Program} {w : World} {X : Cx} : Passes (CXE P w) X E0 := fun _ _ _ _ _ _ _ h => by
  obtain ⟨_, _, _, _, _, _, _, _, _, _, q⟩ := h
  exact q.elim
section
variable {X : Cx} {pins : List (Addr × Obj)} {σ : L2.St} {H : Hp} {s : Shared} {h' : Heap} {ch : List Addr}
structure Flown (X : Cx) (H : Hp) (h h' : Heap) (ch : List Addr) : Prop where
  keep : ∀ b o, h.get? b = some o → b ∉ frs X.stack → b ∉ ch → h'.get? b = some o
  slot : ∀ b o, h.get? b = some o → b ∈ frs X.stack → ∃ sl, h'.get? b = some { o with slots := sl }
  young : ∀ b ∈ ch, X.s₀.heap.get? b = none ∧ H b = none
end
end Kw
set_option Elab.async false
set_option linter.all false
set_option maxRecDepth 100000
set_option maxHeartbeats 4000000
namespace Kw
open PySem PySem.Spec PyProof.Rows L2
section
variable {X : Cx} {x : Str} {C : Addr} {E : XK} {e : Expr} {es : List Expr} {t : TA} {np cpos pos : Pos}
end
structure Fu (K : PySem.W.Frag) (x : Str) (st : Stmt) (f : Addr) (fd : FuncData) : Prop where
  ex : ∃ (oc : Value) (od : Option Addr) (dV kV doc pm : Value) (an : Option Addr) (cdv ct : Value) (osl : Array (Option Value)),
    fd = PySem.W.fnOf x x (defArgs st) (defBody st) (defScope st) dV kV doc pm an cdv ct ∧ K.lookup f = some ⟨oc, od, .func fd, osl⟩ ∧ PySem.W.codeIn K cdv x = true
  kp : PySem.W.keepIn K (.ref f) = true
structure Df (K : PySem.W.Frag) (mg : Str → Option Value) (x : Str) (st : Stmt) (ps : List Str) : Prop where
  ex : ∃ f fd, Fu K x st f fd ∧ Binds K fd ps [] ∧ mg x = some (.ref f)
structure Fn (P : Program) (w : World) (K : PySem.W.Frag) (mg : Str → Option Value) (base : Heap) (k : Nat) (x : Str) (ps : List Str) (sp : Sp) : Prop where
  ex : ∃ f fd, FnOk P w K mg base (CXE P w) k f fd ps sp ∧ mg x = some (.ref f) ∧ PySem.W.keepIn K (.ref f) = true ∧ Binds K fd ps [] ∧ ∃ oc od osl, K.lookup f = some ⟨oc, od, .func fd, osl⟩
section
variable {P : Program} {w : World} {K : PySem.W.Frag} {mg : Str → Option Value} {base : Heap} {x : Str} {st : Stmt} {N ps : List Str} {k : Nat} {sp : Sp}
theorem Df.ok0 (D : Df K mg x st ps) (S : FnScope N ps (defScope st)) (len : ∀ vs H Q E, sp vs H Q E → vs.length = ps.length)
    (hbody : ∀ (f : Addr) (cdv : Value) (A : Around) (outer : List Env) (s : Shared) (H : Hp) (vs : List V) (Q : VK) (E : XK), Room k (A.deeper (envOfC x (defScope st) s.heap.objs.size f cdv)) → sp vs H Q E →
      ∃ t, PSs (cxOf (CXE P w) P w K mg base N x (defScope st) f cdv A outer s H E).nox (defBody st) t ∧ t { nx := fun _ H' => Q .non H', rt := Q } (start N vs) H) : Fn P w K mg base (k + 1) x ps sp := by
  obtain ⟨f, fd, ⟨⟨oc, od, dV, kV, doc, pm, an, cdv, ct, osl, rfl, lk, hcd⟩, kp⟩, bd, hm⟩ := D.ex
  refine ⟨f, _, fn_of lk hcd S len fun A outer s H vs Q E hr hsp => ?_, hm, kp, bd, _, _, _, lk⟩
  obtain ⟨t, h, q⟩ := hbody f cdv A outer s H vs Q E hr hsp
  exact ⟨t, h.nox, q⟩
end
section
variable {X : Cx} {k k' : Nat} {x : Str} {ps : List Str} {sp : Sp} {E : XK} {p pos : Pos} {e : Expr} {es : List Expr} {t : TA}
theorem pe_fn (F : Fn X.prog X.w X.K X.mg X.base k x ps sp) (hk : k ≤ k') (hr : Room k' X.A) (hg : Gl X x) (hx : Passes (CXE X.prog X.w) X E) (ha : PA X (e :: es) t) (hdb : (x == ("__debug__" : Str)) = false := by decide)
    (he : starEach (e :: es) X.env = (false, eval e X.env) :: starEach es X.env := by rfl) (hpl : (backTo pos (starEach es X.env)).any (·.1) = false := by rfl) : PE X (.Call (.Name x p) (e :: es) [] pos) (tCall sp [] E t) := by
  obtain ⟨f, fd, G, hm, kp, bd, _⟩ := F.ex
  exact pe_call G (hr.mono hk) hg hm kp bd .nil hx ha hdb he hpl
end
end Kw
set_option Elab.async false
set_option linter.all false
set_option maxRecDepth 100000
set_option maxHeartbeats 4000000
namespace Kw
open PySem PySem.Spec PyProof.Rows L2
def Bd (n : Nat) (i : Int) : Prop := i.natAbs < 2 ^ n
theorem Bd.mono {m n : Nat} {i : Int} (h : Bd m i) (l : m ≤ n) : Bd n i := Nat.lt_of_lt_of_le h (Nat.pow_le_pow_right (by decide) l)
theorem Bd.of_le {n : Nat} {i j : Int} (h : Bd n j) (l : i.natAbs ≤ j.natAbs) : Bd n i := Nat.lt_of_le_of_lt l h
theorem Bd.bits {n : Nat} {i : Int} (h : Bd n i) : Builtin.Int.intBits i ≤ n := intBits_le_iff.mpr h
theorem bd_bits {n : Nat} {i : Int} (h : Builtin.Int.intBits i ≤ n) : Bd n i := intBits_le_iff.mp h
theorem Bd.mul {m n : Nat} {i j : Int} (h : Bd m i) (g : Bd n j) : Bd (m + n) (i * j) := bd_bits (intBits_mul_le h.bits g.bits)
theorem Bd.add {m : Nat} {i j : Int} (h : Bd m i) (g : Bd m j) : Bd (m + 1) (i + j) := bd_bits (Nat.le_trans (intBits_add_le h.bits g.bits) (by omega))
theorem Bd.sub {m : Nat} {i j : Int} (h : Bd m i) (g : Bd m j) : Bd (m + 1) (i - j) := bd_bits (Nat.le_trans (intBits_sub_le h.bits g.bits) (by omega))
theorem Bd.ok {m n : Nat} {i j : Int} (h : Bd m i) (g : Bd n j) (l : m + n ≤ 134217728) : IntMulOk i j := .of_le h.bits g.bits l
theorem Bd.small {i : Int} (h1 : -(2 ^ 64) < i) (h2 : i < 2 ^ 64) : Bd 64 i := bd_bits (intBits_le_64 h1 h2)
theorem Bd.log {i : Int} (h : Bd 9000 i) : i.natAbs.log2 < 9000 := by
  by_cases h0 : i.natAbs = 0
  · rw [h0]; decide +kernel
  · exact (Nat.log2_lt h0).mpr h
theorem mulOk_small {i j : Int} (h1 : -(2 ^ 64) < j) (h2 : j < 2 ^ 64) : IntMulOk i j := .of_right (intBits_le_64 h1 h2)
theorem mulOk_smallL {i j : Int} (h1 : -(2 ^ 64) < i) (h2 : i < 2 ^ 64) : IntMulOk i j := .of_left (intBits_le_64 h1 h2)
theorem bd_fT {n : Nat} {t b : Int} (h : b ≠ 0) (g : Bd n t) : Bd n (fT t b) := g.of_le (fT_le h)
theorem bd_fB {n : Nat} {t b : Int} (h : b ≠ 0) (g : Bd n b) : Bd n (fB t b) := g.of_le (fB_le h)
theorem bd_dv {n : Nat} {t b : Int} (h : b ≠ 0) (g : Bd n b) : Bd n (dv t b) := g.of_le (dv_le h)
section
variable {K : PySem.W.Frag}
theorem kit_int_int : PySem.W.kitOne K (.type "int") (.type "int") = some true := by with_unfolding_all rfl
theorem kit_int_bool : PySem.W.kitOne K (.type "int") (.type "bool") = some false := by with_unfolding_all rfl
theorem kit_tup_tup : PySem.W.kitOne K (.type "tuple") (.type "tuple") = some true := by with_unfolding_all rfl
theorem kit_bl_bl : PySem.W.kitOne K (.type "bool") (.type "bool") = some true := by with_unfolding_all rfl
end
def spWhole (K : PySem.W.Frag) : Sp := fun vs H Q _ => ∃ x t b1 b2, vs = [x] ∧ TyOf K H x t ∧ PySem.W.kitOne K t (.type "int") = some b1 ∧ PySem.W.kitOne K t (.type "bool") = some b2 ∧ Q (.bl (b1 && !b2)) H
def Frac (t b : Int) (H : Hp) (Q : VK) : Prop := ∀ p H', Same H H' → H' p = some (.tup [.int (fT t b), .int (fB t b)]) → Q (.ref p) H'
def Scr (K : PySem.W.Frag) (H : Hp) (a : Addr) : Prop := ∃ ns : List Int, SqL K H a (ns.map V.int) ∧ ns.length ≤ 63 ∧ ∀ n ∈ ns, Bd 1048576 n
def spCell (K : PySem.W.Frag) : Sp := fun vs H Q _ => ∃ a k, vs = [.ref a, .int k] ∧ Scr K H a ∧ 0 ≤ k ∧ k ≤ 1000 ∧ ∀ c, Bd 1048576 c → Q (.int c) H
def spMix : Sp := fun vs H Q _ => ∃ c k, vs = [.int c, .int k] ∧ Bd 1048576 c ∧ 0 ≤ k ∧ k ≤ 1000 ∧ ∀ n, Q (.int n) H
def spBox (K : PySem.W.Frag) : Sp := fun vs H Q _ => ∃ a k, vs = [.ref a, .int k] ∧ Scr K H a ∧ 0 ≤ k ∧ k ≤ 1000 ∧ ∀ p n H', H p = none → Same H H' → H' p = some (.lst [.int n]) → Q (.ref p) H'
def spTake : Sp := fun vs H Q _ => ∃ b m n, vs = [.ref b, .int m] ∧ H b = some (.lst [.int n]) ∧ 0 < m ∧ Bd 9000 m ∧ ∀ d n' H', 0 ≤ d → d < m → But b H H' → H' b = some (.lst [.int n']) → Q (.int d) H'
def spFit : Sp := fun vs H Q _ => ∃ a b : Int, vs = [.int a, .int b] ∧ b ≠ 0 ∧ Bd 9000 b ∧ Frac a b H Q
end Kw
set_option Elab.async false
set_option linter.all false
set_option maxRecDepth 100000
set_option maxHeartbeats 4000000
namespace Kw
open PySem PySem.Spec PyProof.Rows L2
section
variable {X : Cx} {pins : List (Addr × Obj)} {σ : L2.St} {H : Hp} {s : Shared} {h' : Heap} {ch : List Addr} {x : Addr}
theorem Inv.adopt (hcl : ∀ y c, X.env.cells.lookup y = some c → c ≠ x)   {o : HO} (I : Inv X pins σ H s) (n0 : X.s₀.heap.get? x = none) (hx : H x = none) (hL : x ≠ X.env.locals) (np : ∀ p ∈ X.pn ++ pins, p.1 ≠ x) (ok : ObjOk X.prog X.w (upd H x o) s.heap x o) :
    Inv X pins σ (upd H x o) s := by
  have nx : ∀ b, H b ≠ none → b ≠ x := fun b hb z => hb (by rw [z]; exact hx)
  refine ⟨I.ok, I.os, I.bare, ⟨I.base.keep, I.base.slot, fun b ob q n hb => ?_, I.base.there, fun b xs q => ?_, fun b ob u q => ?_, fun b ps q => ?_⟩, I.loc, I.cell, ?_, fun y c z => ?_, fun p hp => ?_, fun a u e => ?_, I.len⟩
  · rw [upd_ne fun z => by rw [z, n0] at q; cases q]
    exact I.base.free b ob q n hb
  · have z := I.base.tups b xs q
    rw [upd_ne (nx b (by rw [z]; exact fun q => nomatch q))]
    exact z
  · have z := I.base.frzs b ob u q
    rw [upd_ne (nx b (by rw [z]; exact fun q => nomatch q))]
    exact z
  · obtain ⟨more, z⟩ := I.base.tbls b ps q
    exact ⟨more, by rw [upd_ne (nx b (by rw [z]; exact fun q => nomatch q))]; exact z⟩
  · rw [upd_ne (Ne.symm hL)]
    exact I.free
  · rw [upd_ne (hcl y c z)]
    exact I.freeC y c z
  · obtain ⟨a, b, c, d, e⟩ := I.pin p hp
    exact ⟨a, by rw [upd_ne (np p hp)]; exact b, c, d, e⟩
  · by_cases z : a = x
    · subst z
      rw [upd_same] at e
      cases e
      exact ok
    · rw [upd_ne z] at e
      refine (I.hok a u e).stay (fun b v hb q => q) (fun b q => ?_) fun b xs q => ?_
      · rw [upd_ne (nx b (by rw [q]; exact fun q => nomatch q))]
        exact q
      · rw [upd_ne (nx b (by rw [q]; exact fun q => nomatch q))]
        exact q
end
end Kw
set_option Elab.async false
set_option linter.all false
set_option maxRecDepth 100000
set_option maxHeartbeats 4000000
namespace Kw
open PySem PySem.Spec PyProof.Rows L2
section
variable {X : Cx} {pins : List (Addr × Obj)} {σ : L2.St} {H : Hp} {s : Shared}
end
section
variable {X : Cx} {k k' i j : Nat} {fx y n xK : Str} {ps : List Str} {sp : Sp} {CK : Addr} {e : Expr} {es : List Expr} {t : TA} {ts : TS} {b₀ : Stmt} {suite : List Stmt} {np cpos yp apos kp hpos pos : Pos}
end
end Kw
set_option Elab.async false
set_option linter.all false
set_option maxRecDepth 100000
set_option maxHeartbeats 4000000
namespace Kw
open PySem PySem.Spec PyProof.Rows L2
section
variable {X : Cx}
end
end Kw
set_option Elab.async false
set_option linter.all false
set_option maxRecDepth 100000
set_option maxHeartbeats 4000000
namespace Kw
open PySem PySem.Spec PyProof.Rows L2
section
variable {X : Cx} {pins : List (Addr × Obj)} {σ : L2.St} {H : Hp} {s : Shared} {h' : Heap} {ch : List Addr}
end
end Kw
set_option Elab.async false
set_option linter.all false
set_option maxRecDepth 100000
set_option maxHeartbeats 4000000
namespace Kw
open PySem PySem.Spec PyProof.Rows L2
section
variable {X : Cx}
theorem all_range_eq : ∀ (ns ms : List Int), ((List.range (min ns.length ms.length)).all (fun j => decide (ns[j]? = ms[j]?)) && ns.length == ms.length) = decide (ns = ms) := by
  intro ns ms
  by_cases e : ns = ms
  · subst e
    rw [decide_eq_true rfl, Bool.and_eq_true]
    exact ⟨List.all_eq_true.mpr fun j _ => decide_eq_true rfl, beq_self_eq_true _⟩
  · rw [decide_eq_false e, Bool.and_eq_false_iff]
    by_cases l : ns.length = ms.length
    · left
      refine Bool.eq_false_iff.mpr fun h => e (List.ext_getElem? fun i => ?_)
      by_cases hi : i < ns.length
      · exact of_decide_eq_true (List.all_eq_true.mp h i (List.mem_range.mpr (by omega)))
      · rw [List.getElem?_eq_none (by omega), List.getElem?_eq_none (by omega)]
    · right
      exact beq_eq_false_iff_ne.mpr l
theorem int_item {ns : List Int} {its : List Value} (r : Vals (ns.map V.int) its) {j : Nat} (h : j < its.toArray.size) : ∃ n t, ns[j]? = some n ∧ its.toArray[j] = Value.int n t := by
  have hl := r.length
  rw [List.length_map] at hl
  have hj : j < ns.length := by simp at h; omega
  have e : (ns.map V.int)[j]? = some (V.int ns[j]) := by rw [List.getElem?_map, List.getElem?_eq_getElem hj]; rfl
  obtain ⟨u, hu, t, rfl⟩ := r.get e
  refine ⟨ns[j], t, List.getElem?_eq_getElem hj, ?_⟩
  have hj' : j < its.length := by omega
  rw [List.getElem?_eq_getElem hj'] at hu
  simpa using Option.some.inj hu
theorem op_eqTI (hu : X.A.units < cLine) : OpR X (compareOp .Eq) (fun x y H Q => ∃ (a b : Addr) (ns ms : List Int), x = .ref a ∧ y = .ref b ∧ SqT X.K H a (ns.map V.int) ∧ SqT X.K H b (ms.map V.int) ∧ Q (.bl (decide (ns = ms))) H) := by
  intro pins s σ H x y v u Q I rx ry h
  obtain ⟨a, b, ns, ms, rfl, rfl, ha, hb, q⟩ := h
  cases (show v = Value.ref a from rx)
  cases (show u = Value.ref b from ry)
  obtain ⟨its, r, pl, hz⟩ := I.tuple ha
  obtain ⟨jts, r', pl', hz'⟩ := I.tuple hb
  refine SeqAt.eq_tupleAt (e := fun j => decide (ns[j]? = ms[j]?)) pl pl' hu (fun j h1 h2 => ?_) ?_
  · obtain ⟨n, t, e1, e2⟩ := int_item r h1
    obtain ⟨m, t', e3, e4⟩ := int_item r' h2
    rw [e2, e4, e1, e3]
    have z : decide (some n = some m) = (n == m) := by
      by_cases c : n = m
      · subst c; simp
      · simp [c]
    rw [z]
    exact SeqAt.EqAt.int_int n t m t'
  · have l1 : its.toArray.size = ns.length := by rw [List.size_toArray, ← r.length, List.length_map]
    have l2 : jts.toArray.size = ms.length := by rw [List.size_toArray, ← r'.length, List.length_map]
    rw [l1, l2, all_range_eq]
    exact ⟨.bl (decide (ns = ms)), H, I, rfl, q⟩
end
end Kw
set_option Elab.async false
set_option linter.all false
set_option maxRecDepth 100000
set_option maxHeartbeats 4000000
namespace Kw
open PySem PySem.Spec PyProof.Rows L2
theorem weight_items : ∀ (ns : List Int) (n : Int), n ∈ ns → Builtin.Int.intBits n ≤ PySem.W.WData.weightAll (ns.map PySem.W.WData.int)
  | [], _, h => nomatch h
  | m :: r, n, h => by
    have e : PySem.W.WData.weightAll ((m :: r).map PySem.W.WData.int) = Builtin.Int.intBits m + 1 + PySem.W.WData.weightAll (r.map PySem.W.WData.int) := rfl
    rw [e]
    rcases List.mem_cons.mp h with z | z
    · subst z; omega
    · have := weight_items r n z
      omega
theorem script_bits {ns : List Int} (h : PySem.W.WData.layableAll [PySem.W.WData.list (ns.map PySem.W.WData.int)] = true) : ∀ n ∈ ns, Bd 1048576 n := fun n hn => by
  have h1 : PySem.W.WData.layable (PySem.W.WData.list (ns.map PySem.W.WData.int)) = true := by
    unfold PySem.W.WData.layableAll at h
    simpa using h
  unfold PySem.W.WData.layable at h1
  rw [Bool.and_eq_true] at h1
  have h2 : PySem.W.WData.weightAll (ns.map PySem.W.WData.int) ≤ 2 ^ 20 := of_decide_eq_true h1.2
  exact bd_bits (Nat.le_trans (weight_items ns n hn) h2)
def spLaw (K : PySem.W.Frag) : Sp := fun vs H Q _ => ∃ a, vs = [.ref a] ∧ Scr K H a ∧ ∀ H', Q (.bl true) H'
theorem walk_kw {pn : Str} {l : PySem.W.OpenLaw} {k : Nat} {q : Program} {loose : List Str} {XP : (Str → Option Value) → Heap → Prop} {YP : World → Heap → Prop} {d : DefRec} {K : Params → PySem.W.Frag}
    (hn : l.most = some 63) (hdf : d.params.defaults = []) (hr : Room k callerA) (hY : ∀ (w : World) (h : Heap), YP w h → (K w.params).In h) (hnm : d.name = "law")
    (F : ∀ (w : World) (mg : Str → Option Value) (h : Heap), (K w.params).In h → h.Ns mainGlobals mg → ∃ fa, mg "law" = some (.ref fa) ∧ ∃ fd : FuncData, (∀ (s : Shared) (u : Value), BindsTo s fd ⟨[u], []⟩ [(pn, u)]) ∧
      ∀ base : Heap, (K w.params).In base → base.Ns mainGlobals mg → FnOk l.prog w (K w.params) mg base (CXE l.prog w) k fa fd [pn] (spLaw (K w.params))) :
    PySem.W.WalkO q loose XP YP l.row.toRowW d [] (fun f vs => PySem.call f vs) := by
  intro w s₀ s₁ mg mb G Y fa o pm cd doc dV kV ho hd hcd hD hmg hg args vals as hpre hlay hrd hwl hlo
  obtain ⟨a, vs, ns, e1, e2, hobj, hints, hlen⟩ := Att.script_of hn hpre hwl
  subst e1 e2
  have KX := hY w _ Y
  obtain ⟨fa', hfa, fd, hb, hF⟩ := F w mg _ KX G.T.g
  rw [hnm, hfa] at hmg
  cases hmg
  have core := law_call KX G.T.g G.T.b G.T.builtins G.T.nolimit hg hobj hints (Nat.le_trans hlen (by decide)) hr hF hb (fun H hO hS => ⟨a, rfl, ⟨ns, hS, hlen, script_bits hlay⟩, fun _ => rfl⟩) (fun H e s' z => by
    obtain ⟨_, _, _, _, _, _, _, _, _, _, z⟩ := z
    exact z)
  refine PySem.W.enter_call (codeAny_mono core fun r s' hq => ?_)
  obtain ⟨rfl, h2, h3, h4⟩ := hq
  exact ⟨.inl ⟨.bool true, .bool true, [], rfl, fun _ => rfl, .bool true, Att.post_true l _, fun _ => ⟨List.Pairwise.nil, fun _ hm => (nomatch hm)⟩⟩, h2, h3, h4⟩
theorem df_mk {K : PySem.W.Frag} {h : Heap} {mg : Str → Option Value} {x : Str} {st : Stmt} {ps : List Str} {f : Addr} {od an : Option Addr} {sl : Array (Option Value)} {oc kV dc pm cd ct : Value} (X : K.In h) (G : h.Ns mainGlobals mg)
    (a : PySem.W.nsIn K mainGlobals x = some (some (.ref f))) (l : K.lookup f = some ⟨oc, od, .func (PySem.W.fnOf x x (defArgs st) (defBody st) (defScope st) .none kV dc pm an cd ct), sl⟩) (c : PySem.W.codeIn K cd x = true) (k : PySem.W.keepIn K (.ref f) = true)
    (b : ∀ us : List Value, us.length = ps.length → bindArgs (PySem.W.fnOf x x (defArgs st) (defBody st) (defScope st) .none kV dc pm an cd ct) ⟨us, []⟩ = pure (ps.zip us)) : Df K mg x st ps :=
  ⟨f, _, ⟨⟨oc, od, .none, kV, dc, pm, an, cd, ct, sl, rfl, l, c⟩, k⟩, .all b, PySem.W.mg_of X G a⟩
theorem law_end {pn : Str} {P : Program} {w : World} {K : PySem.W.Frag} {h : Heap} {mg : Str → Option Value} {st : Stmt} {f : Addr} {od an : Option Addr} {sl : Array (Option Value)} {oc kV dc pm cd ct : Value} {k : Nat} (X : K.In h) (G : h.Ns mainGlobals mg)
    (a : PySem.W.nsIn K mainGlobals "law" = some (some (.ref f))) (l : K.lookup f = some ⟨oc, od, .func (PySem.W.fnOf "law" "law" (defArgs st) (defBody st) (defScope st) .none kV dc pm an cd ct), sl⟩)
    (b : ∀ u : Value, bindArgs (PySem.W.fnOf "law" "law" (defArgs st) (defBody st) (defScope st) .none kV dc pm an cd ct) ⟨[u], []⟩ = pure [(pn, u)])
    (F : ∀ base : Heap, K.In base → base.Ns mainGlobals mg → Fn P w K mg base k "law" [pn] (spLaw K)) :
    ∃ fa, mg "law" = some (.ref fa) ∧ ∃ fd : FuncData, (∀ (s : Shared) (u : Value), BindsTo s fd ⟨[u], []⟩ [(pn, u)]) ∧ ∀ base : Heap, K.In base → base.Ns mainGlobals mg → FnOk P w K mg base (CXE P w) k fa fd [pn] (spLaw K) := by
  have hm := PySem.W.mg_of X G a
  refine ⟨f, hm, _, fun s u => .of_eq (b u), fun base kb nb => ?_⟩
  obtain ⟨f', fd', G', hm', _, _, _, _, _, lk⟩ := (F base kb nb).ex
  rw [hm] at hm'
  cases hm'
  rw [l] at lk
  cases lk
  exact G'
end Kw
set_option Elab.async false
set_option linter.all false
set_option maxRecDepth 100000
set_option maxHeartbeats 4000000
namespace Kw
open PySem PySem.Spec PyProof.Rows L2 PySem.Builtin PySem.Builtin.ObjectAttr PySem.Builtin.Getset_descriptor
section
variable {prog : Program} {w : World} {A : Around} {E : Value → Shared → Prop} {s : Shared} {K : PySem.W.Frag} {x C : Addr}
end
section
variable {X : Cx}
end
end Kw
set_option Elab.async false
set_option linter.all false
set_option maxRecDepth 100000
set_option maxHeartbeats 4000000
namespace Kw
open PySem PySem.Spec PyProof.Rows L2
mutual
inductive Dp (K : PySem.W.Frag) (H : Hp) : V → PyData → Prop
  | non : Dp K H .non .none
  | bl (b : Bool) : Dp K H (.bl b) (.bool b)
  | int (i : Int) : Dp K H (.int i) (.int i)
  | str (x : Str) : Dp K H (.str x) (.str x)
  | lst {p : Addr} {xs : List V} {ds : List PyData} : SqL K H p xs → Dps K H xs ds → Dp K H (.ref p) (.list ds)
  | tup {p : Addr} {xs : List V} {ds : List PyData} : SqT K H p xs → Dps K H xs ds → Dp K H (.ref p) (.tuple ds)
inductive Dps (K : PySem.W.Frag) (H : Hp) : List V → List PyData → Prop
  | nil : Dps K H [] []
  | cons {x : V} {xs : List V} {d : PyData} {ds : List PyData} : Dp K H x d → Dps K H xs ds → Dps K H (x :: xs) (d :: ds)
end
section
variable {X : Cx} {pins : List (Addr × Obj)} {σ : L2.St} {H : Hp} {s : Shared}
mutual
theorem Dp.reads (I : Inv X pins σ H s) : ∀ {x : V} {d : PyData} {u : Value}, Dp X.K H x d → RelV x u → ∃ as, Reads s.heap u d as
  | _, _, _, .non, r => by cases r; exact ⟨_, .none⟩
  | _, _, _, .bl b, r => by cases r; exact ⟨_, .bool b⟩
  | _, _, _, .int i, r => by obtain ⟨t, rfl⟩ := r; exact ⟨_, .int i t⟩
  | _, _, _, .str x, r => by obtain ⟨t, rfl⟩ := r; exact ⟨_, .str x t⟩
  | _, _, _, .lst h q, r => by
    cases r
    obtain ⟨its, r', pl, hz⟩ := I.list h
    obtain ⟨as, ra⟩ := Dps.reads I q r'
    obtain ⟨o, n, ho, hc, _, hd⟩ := pl
    exact ⟨_, .list ho hc hd ra⟩
  | _, _, _, .tup h q, r => by
    cases r
    obtain ⟨its, r', pl, hz⟩ := I.tuple h
    obtain ⟨as, ra⟩ := Dps.reads I q r'
    obtain ⟨o, ho, hc, n, hd⟩ := pl
    exact ⟨_, .tuple ho hc hd ra⟩
theorem Dps.reads (I : Inv X pins σ H s) : ∀ {xs : List V} {ds : List PyData} {us : List Value}, Dps X.K H xs ds → Vals xs us → ∃ as, ReadsAll s.heap us ds as
  | _, _, _, .nil, r => by cases r; exact ⟨_, .nil⟩
  | _, _, _, .cons h q, r => by
    cases r with
    | cons a b =>
      obtain ⟨as, ra⟩ := Dp.reads I h a
      obtain ⟨bs, rb⟩ := Dps.reads I q b
      exact ⟨_, .cons ra rb⟩
end
def rDp (K : PySem.W.Frag) (g : Bool → Bool) : V → V → Hp → VK → Prop := fun x y H Q => ∃ dx dy, Dp K H x dx ∧ Dp K H y dy ∧ dx.canLay0 = true ∧ dy.canLay0 = true ∧ min dx.depth dy.depth ≤ 60 ∧ Q (.bl (g (PyData.eqv dx dy))) H
theorem op_eqD {K : PySem.W.Frag} (hK : X.K = K) (hu : X.A.units + 100 < cLine) : OpR X (compareOp .Eq) (rDp K id) := by
  subst hK
  intro pins s σ H x y v u Q I rx ry h
  obtain ⟨dx, dy, hx, hy, cx, cy, dep, q⟩ := h
  obtain ⟨as, ra⟩ := hx.reads I rx
  obtain ⟨bs, rb⟩ := hy.reads I ry
  exact SeqAt.compareEq_reads ra rb cx cy (by omega) ⟨.bl (PyData.eqv dx dy), H, I, rfl, q⟩
theorem op_neD {K : PySem.W.Frag} (hK : X.K = K) (hu : X.A.units + 100 < cLine) : OpR X (compareOp .NotEq) (rDp K not) := by
  subst hK
  intro pins s σ H x y v u Q I rx ry h
  obtain ⟨dx, dy, hx, hy, cx, cy, dep, q⟩ := h
  obtain ⟨as, ra⟩ := hx.reads I rx
  obtain ⟨bs, rb⟩ := hy.reads I ry
  exact SeqAt.compareNe_reads ra rb cx cy (by omega) ⟨.bl (!PyData.eqv dx dy), H, I, rfl, q⟩
end
end Kw
set_option Elab.async false
set_option linter.all false
set_option maxRecDepth 100000
set_option maxHeartbeats 4000000
namespace Kw
open PySem PySem.Spec PyProof.Rows L2
theorem upd2 {H : Hp} {p : Addr} {o o' : HO} : upd (upd H p o) p o' = upd H p o' := by
  funext b
  by_cases e : b = p
  · subst e; rw [upd_same, upd_same]
  · rw [upd_ne e, upd_ne e, upd_ne e]
theorem past_sys {X : Cx} {pins : List (Addr × Obj)} {σ : L2.St} {H : Hp} {s : Shared} (I : Inv X pins σ H s) : sysModules < s.heap.objs.size :=
  Nat.lt_trans (by decide) (show mainGlobals < _ from (I.mod.glob.keeps I.bk).lt)
section
variable {X : Cx} {pos : Pos} {k v : Expr} {x : Str} {i : Int}
def tD1 (x : Str) (i : Int) : TE := fun _ H Q => ∀ p, H p = none → Q (.ref p) (upd H p (.dK [(.inr x, .int i)]))
theorem pe_d1 (hk : PE X k (tC (.str x))) (hv : PE X v (tC (.int i))) : PE X (.Dict [some k] [v] pos) (tD1 x i) := by
  intro pins s σ H Q I q
  have hn := I.hok.fresh (Nat.le_refl s.heap.objs.size)
  have hsm : (s.heap.objs.size == sysModules) = false := beq_eq_false_iff_ne.mpr (Ne.symm (Nat.ne_of_lt (past_sys I)))
  have I1 := I.laid (a := s.heap.objs.size) (o := .dK []) (h' := s.heap.push { cls := .type "dict", data := .dict #[] }) (t' := s.toks) (fun _ _ q => Heap.get?_push_of_some _ q) (Nat.le_refl _)
    ⟨Nat.zero_le _, hsm, [], .nil, Heap.DictOf.new s.heap⟩
  refine wpAny_Dict_walk (knd := mixKind X.prog X.w) rfl rfl (by simp) (by show 1 ≤ 15; decide) (pairTrees_cons_walk ?_)
  refine thn (hk pins _ σ _ (fun y H1 => y = .str x ∧ H1 = upd H s.heap.objs.size (.dK [])) I1 ⟨rfl, rfl⟩) fun u s1 ⟨y, H1, I2, rx, ey, eH⟩ => ?_
  subst ey eH
  refine thn (hv pins _ σ _ (fun y H1 => y = .int i ∧ H1 = upd H s.heap.objs.size (.dK [])) I2 ⟨rfl, rfl⟩) fun u2 s2 ⟨y, H1, I3, ry, ey, eH⟩ => ?_
  subst ey eH
  refine pairTrees_nil_walk ?_
  obtain ⟨t, rfl⟩ := rx
  obtain ⟨t2, rfl⟩ := ry
  obtain ⟨_, _, vs0, r0, dd⟩ := (show ObjOk X.prog X.w _ s2.heap s.heap.objs.size (.dK []) from I3.hok _ _ upd_same)
  cases r0
  refine ⟨[(.inr x, .int i t2)], ⟨mixKind_str _ _ x t, rfl, True.intro⟩, dd, fun h' dd' hs => ⟨.ref s.heap.objs.size, _, ?_, rfl, q _ hn⟩⟩
  rw [← upd2 (o := .dK []) (o' := .dK [(.inr x, .int i)])]
  have he : ∃ z, h'.get? s.heap.objs.size = some z := let ⟨z, _, _, hz, _⟩ := dd'; ⟨z, hz⟩
  exact I3.write (by rw [upd_same]; exact True.intro) (.inl rfl) (fun b u nb e => (hs.2 b nb).trans e) he ⟨by rw [sizeLine_eq]; show 1 ≤ 16777216; decide, hsm, _, .cons ⟨rfl, ⟨t2, rfl⟩⟩ .nil, dd'⟩
end
end Kw
namespace Kw
open PySem PySem.Spec PyProof.Rows L2
section
variable {X : Cx}
end
section
variable {K : PySem.W.Frag} {H H' : Hp} {v : V} {t : Value}
theorem TyOf.same (h : TyOf K H v t) (s : Same H H') : TyOf K H' v t := by
  cases h with
  | non => exact .non
  | bl x => exact .bl x
  | int x => exact .int x
  | str x => exact .str x
  | flt x => exact .flt x
  | lst e => exact .lst (s _ _ e)
  | frz e => exact .frz (s _ _ e)
  | tup e => exact .tup (s _ _ e)
  | dK e => exact .dK (s _ _ e)
  | dT e => exact .dT (s _ _ e)
  | ins e a b c d f => exact .ins (s _ _ e) a b c d f
def WhN (K : PySem.W.Frag) (H : Hp) (v : V) : Prop := ∃ t b1 b2, TyOf K H v t ∧ PySem.W.kitOne K t (.type "int") = some b1 ∧ PySem.W.kitOne K t (.type "bool") = some b2 ∧ (b1 && !b2) = false
theorem WhN.same (h : WhN K H v) (s : Same H H') : WhN K H' v := by
  obtain ⟨t, b1, b2, a, r⟩ := h
  exact ⟨t, b1, b2, TyOf.same a s, r⟩
theorem kit_non_int : PySem.W.kitOne K (.type "NoneType") (.type "int") = some false := by with_unfolding_all rfl
theorem kit_non_bool : PySem.W.kitOne K (.type "NoneType") (.type "bool") = some false := by with_unfolding_all rfl
theorem kit_non_tup : PySem.W.kitOne K (.type "NoneType") (.type "tuple") = some false := by with_unfolding_all rfl
theorem kit_bl_int : PySem.W.kitOne K (.type "bool") (.type "int") = some true := by with_unfolding_all rfl
theorem kit_bl_tup : PySem.W.kitOne K (.type "bool") (.type "tuple") = some false := by with_unfolding_all rfl
theorem kit_int_tup : PySem.W.kitOne K (.type "int") (.type "tuple") = some false := by with_unfolding_all rfl
theorem kit_str_int : PySem.W.kitOne K (.type "str") (.type "int") = some false := by with_unfolding_all rfl
theorem kit_str_bool : PySem.W.kitOne K (.type "str") (.type "bool") = some false := by with_unfolding_all rfl
theorem kit_str_tup : PySem.W.kitOne K (.type "str") (.type "tuple") = some false := by with_unfolding_all rfl
theorem kit_tup_int : PySem.W.kitOne K (.type "tuple") (.type "int") = some false := by with_unfolding_all rfl
theorem kit_tup_bool : PySem.W.kitOne K (.type "tuple") (.type "bool") = some false := by with_unfolding_all rfl
theorem kit_lst_int : PySem.W.kitOne K (.type "list") (.type "int") = some false := by with_unfolding_all rfl
theorem kit_lst_bool : PySem.W.kitOne K (.type "list") (.type "bool") = some false := by with_unfolding_all rfl
theorem kit_lst_tup : PySem.W.kitOne K (.type "list") (.type "tuple") = some false := by with_unfolding_all rfl
theorem kit_dct_int : PySem.W.kitOne K (.type "dict") (.type "int") = some false := by with_unfolding_all rfl
theorem kit_dct_bool : PySem.W.kitOne K (.type "dict") (.type "bool") = some false := by with_unfolding_all rfl
theorem kit_dct_tup : PySem.W.kitOne K (.type "dict") (.type "tuple") = some false := by with_unfolding_all rfl
theorem whn_tup {p : Addr} {xs : List V} (e : H p = some (.tup xs)) : WhN K H (.ref p) := ⟨_, _, _, .tup e, kit_tup_int, kit_tup_bool, rfl⟩
theorem whn_lst {p : Addr} {xs : List V} (e : H p = some (.lst xs)) : WhN K H (.ref p) := ⟨_, _, _, .lst e, kit_lst_int, kit_lst_bool, rfl⟩
inductive Odd (H : Hp) : V → Bool → Prop
  | non : Odd H .non false
  | bl (b : Bool) : Odd H (.bl b) false
  | s1 : Odd H (.str "1") false
  | s0 : Odd H (.str "") false
  | one {p : Addr} (e : H p = some (.tup [.int 1, .int 1])) : Odd H (.ref p) true
  | lst {p : Addr} (e : H p = some (.lst [.int 1])) : Odd H (.ref p) false
  | dct {p : Addr} (e : H p = some (.dK [(.inr "a", .int 1)])) : Odd H (.ref p) false
  | nil {p : Addr} (e : H p = some (.tup [])) : Odd H (.ref p) false
def FracB (K : PySem.W.Frag) (H : Hp) (x : V) (b : Bool) : Prop :=
  (b = false ∧ ∃ t, TyOf K H x t ∧ PySem.W.kitOne K t (.type "tuple") = some false) ∨ (b = false ∧ ∃ p xs, x = .ref p ∧ H p = some (.tup xs) ∧ xs.length ≠ 2) ∨
  (b = false ∧ ∃ p u v, x = .ref p ∧ H p = some (.tup [u, v]) ∧ (WhN K H u ∨ (∃ i, u = .int i) ∧ WhN K H v)) ∨
  ∃ p i j, x = .ref p ∧ H p = some (.tup [.int i, .int j]) ∧ Bd 4000 j ∧ b = (decide (1 ≤ j) && decide (((Int.gcd i j : Nat) : Int) = 1))
end
end Kw
namespace Kw
open PySem PySem.Spec PyProof.Rows L2
section
variable {X : Cx} {k k' : Nat} {x : Str} {ps : List Str} {sp : Sp} {E : XK} {p pos : Pos} {e : Expr} {es : List Expr} {t : TA} {dv : V}
end
end Kw
namespace Kw
theorem low_iff {t b : Int} (h : 0 < b) : decide ([fT t b, fB t b] = [t, b]) = decide (((Int.gcd t b : Nat) : Int) = 1) := by
  have ed : dv t b = ((Int.gcd t b : Nat) : Int) := by unfold dv; rw [if_neg (by omega)]
  have e1 := fT_mul t b
  have e2 := fB_mul t b
  rw [ed] at e1 e2
  by_cases g : ((Int.gcd t b : Nat) : Int) = 1
  · rw [g, Int.one_mul] at e1 e2
    rw [e1, e2, decide_eq_true rfl, decide_eq_true g]
  · rw [decide_eq_false g, decide_eq_false]
    intro z
    simp only [List.cons.injEq, and_true] at z
    rw [z.2] at e2
    refine g (Int.eq_of_mul_eq_mul_right (show b ≠ 0 by omega) ?_)
    rw [e2, Int.one_mul]
end Kw
namespace Kw
open PySem PySem.Spec PyProof.Rows L2
end Kw
namespace Kw
open PySem PySem.Spec PyProof.Rows L2
theorem newO {H : Hp} {p : Addr} (hp : H p = none) (o : HO) : ∃ H', upd H p o = H' ∧ Same H H' ∧ H' p = some o := ⟨_, rfl, same_new hp o, upd_same⟩
theorem odd_term {X : Cx} {e ix : Expr} {te ti : TE} {a1 a2 a3 a4 a5 a6 a7 a8 a9 a0} {b1 b2 b3 b4 b5 b6 b7 b8 b9 b0 c1 c2 c3 c4 : Pos} (he : PE X e te) (hs : ∀ es, starEach (e :: es) X.env = (false, eval e X.env) :: starEach es X.env) (hi : PE X ix ti) (pl : PlainIx ix) :
    PSs X [.Return (some (.Subscript (.List [.Constant .none a1 b1, .Constant (.bool true) a2 b2, .Constant (.bool false) a3 b3, .Constant (.str "1") a4 b4, .Constant (.str "") a5 b5, .Tuple [.Constant (.int 1) a6 b6, .Constant (.int 1) a7 b7] a8 b8,
      .List [.Constant (.int 1) a9 b9] b0, e, .Tuple [] a0 c1] c2) ix c3)) c4]
      (tRet (tOp (rIxL X.K) (tLst (tCons (tC .non) (tCons (tC (.bl true)) (tCons (tC (.bl false)) (tCons (tC (.str "1")) (tCons (tC (.str "")) (tCons (tTup (tCons (tC (.int 1)) (tCons (tC (.int 1)) tNil))) (tCons (tLst (tCons (tC (.int 1)) tNil)) (tCons te (tCons (tTup tNil) tNil)))))))))) ti)) :=
  @pss_one _ _ _ (@ps_ret _ _ _ _ (@pe_ix _ _ _ _ _ _ _ ix_list (@pe_lst _ _ _ _ (@pa_cons _ _ _ _ _ pe_non (@pa_cons _ _ _ _ _ pe_bl (@pa_cons _ _ _ _ _ pe_bl (@pa_cons _ _ _ _ _ pe_str (@pa_cons _ _ _ _ _ pe_str (@pa_cons _ _ _ _ _ (@pe_tup _ _ _ _ _ (@pa_cons _ _ _ _ _ pe_int (@pa_cons _ _ _ _ _ pe_int pa_nil rfl) rfl)) (@pa_cons _ _ _ _ _ (@pe_lst _ _ _ _ (@pa_cons _ _ _ _ _ pe_int pa_nil rfl)) (@pa_cons _ _ _ _ _ he (@pa_cons _ _ _ _ _ (@pe_tup _ _ _ _ _ pa_nil) pa_nil rfl) (hs _)) rfl) rfl) rfl) rfl) rfl) rfl) rfl)) hi pl))
end Kw
namespace Kw
open PySem PySem.Spec PyProof.Rows L2
end Kw
theorem Kw.u100 {k : Nat} {A : PySem.Around} (r : L2.Room k A) : A.units + 100 < PySem.cLine := by have := r.un; omega
namespace Kw
open PySem PySem.Spec PyProof.Rows L2
end Kw
set_option Elab.async false
set_option linter.all false
set_option maxRecDepth 100000
set_option maxHeartbeats 4000000
namespace Kw
open PySem PySem.Spec PyProof.Rows L2
def cxC (X : Cx) (N : List Str) (scope : Scope) (cl : List (Str × Addr)) (C : Addr) (s : Shared) (H : Hp) (fp : List Addr) : Cx :=
  { X with N := N, s₀ := s, H₀ := H, env := compEnvC scope cl C X.env, outer := X.stack, stack := X.stack, ex := fp, fn := fun _ => false, pn := [], xe := fun _ _ => False }
section
variable {X : Cx} {pins : List (Addr × Obj)} {σ : L2.St} {H : Hp} {s : Shared} {N ns : List Str} {scope : Scope} {cl : List (Str × Addr)} {C : Addr} {fp : List Addr} {x : Str} {idx : List Nat}
theorem okC (I : Inv X pins σ H s) (f : ∀ b ∈ fp, FpOk X pins H b) (lt : ∀ b ∈ fp, b < s.heap.objs.size) (hC : s.heap.objs.size ≤ C) (hkind : scope.kind = .function) (hcl : ∀ y c, cl.lookup y = some c → X.env.cells.lookup y = some c)
    (hfr : ∀ y, ((compEnvC scope cl C X.env).kindOf y = some .cell ∨ (compEnvC scope cl C X.env).kindOf y = some .free) → ∃ c, cl.lookup y = some c) : (cxC X N scope cl C s H fp).Ok where
  mod := I.ok.mod
  kind := hkind
  glob := I.ok.glob
  blt := I.ok.blt
  above := hC
  inj := fun x y c e1 e2 => I.ok.inj x y c (hcl _ _ e1) (hcl _ _ e2)
  has := hfr
  cab := fun _ _ h => nomatch h
  hd := I.ok.hd
  frames := I.ok.frames
  stk := .inl rfl
  exf := fun b hb => ⟨Nat.ne_of_lt (Nat.lt_of_lt_of_le (lt b hb) hC), fun x c e => (f b hb).2.2.2.2.1 x c (hcl _ _ e)⟩
  bs := I.bs
  bsz := Nat.le_trans I.ok.bsz I.sz
  noex := fun b o e hb => by
    rcases (f b hb).2.2.2.1 with z | z
    · exact I.ok.noex b o e z
    · exact absurd (Nat.lt_of_lt_of_le (Heap.lt_size e) (Nat.le_trans I.ok.bsz z)) (Nat.lt_irrefl _)
  exfs := fun b hb hs => by
    rcases List.mem_cons.mp (I.stkSub b hs) with z | z
    · exact (f b hb).2.1 z
    · exact (f b hb).2.2.1 z
  funs := I.stack
  frf := I.stkFree
def Capt (X : Cx) (scope : Scope) (cl : List (Str × Addr)) (ns : List Str) (idx : List Nat) : Prop :=
  idx.length = ns.length ∧ ∀ (k : Nat) (y : Str), ns[k]? = some y → ∃ j c, idx[k]? = some j ∧ X.N[j]? = some y ∧ X.env.kindOf y = some .cell ∧ X.env.cells.lookup y = some c ∧ cl.lookup y = some c ∧ ((relabel scope X.env).names.lookup y = some .cell ∨ (relabel scope X.env).names.lookup y = some .free)
def stIn (v : Option V) (idx : List Nat) (σ : L2.St) : L2.St := v :: idx.map fun j => (σ[j]?).join
theorem invC {D : Addr} {h1 : Heap} {t : Nat} {o : Obj} {mC : Str → Option Value} (I : Inv X pins σ H s) (ok : (cxC X (x :: ns) scope cl C s H fp).Ok) (cap : Capt X scope cl ns idx) (hcl : ∀ y c, cl.lookup y = some c → X.env.cells.lookup y = some c)
    (keep : ∀ b u, s.heap.get? b = some u → h1.get? b = some u) (hC : s.heap.objs.size ≤ C) (hns : h1.Ns C mC) (hD : h1.get? D = some o) (hDs : s.heap.objs.size ≤ D) (hDC : D ≠ C) (hod : ∀ v, o.data ≠ .cell v) (hx : (relabel scope X.env).names.lookup x = some .local) :
    Inv (cxC X (x :: ns) scope cl C s H fp) [(D, o)] (stIn none idx σ) H { s with heap := h1, toks := t } := by
  have cellK : ∀ y c, cl.lookup y = some c → ∀ v, s.heap.IsCell c v → h1.IsCell c v := fun y c e v ⟨o, ho, hd⟩ => ⟨o, keep _ _ ho, hd⟩
  refine ⟨ok, rfl, I.bare, Un.kept keep, ⟨mC, hns, fun i y v e1 e2 e3 => ?_⟩, fun y c e => ?_, I.hok.fresh hC, fun y c e => I.freeC y c (hcl y c e), fun p hp => ?_, I.hok.kept keep, ?_⟩
  · cases i with
    | zero => cases e2
    | succ k =>
      have e1' : ns[k]? = some y := e1
      obtain ⟨j, c, h1', h2, h3, h4, h5, h6⟩ := cap.2 k y e1'
      have e2' : (idx.map fun j => (σ[j]?).join)[k]? = some (some v) := e2
      rw [List.getElem?_map, h1'] at e2'
      have e4 : (σ[j]?).join = some v := Option.some.inj e2'
      have e5 : σ[j]? = some (some v) := by
        cases q : σ[j]? with
        | none => rw [q] at e4; cases e4
        | some z => rw [q] at e4; exact congrArg some e4
      obtain ⟨m, hn, hl⟩ := I.loc
      obtain ⟨u, r, lk⟩ := hl j y v h2 e5 (.inr (.inl h3))
      refine ⟨u, r, .inr ⟨h6, c, h5, ?_⟩⟩
      rcases lk with ⟨z, _⟩ | ⟨_, c', z, ic⟩
      · rw [h3] at z; cases z
      · rw [h4] at z; cases z
        exact cellK y c h5 _ ic
  · obtain ⟨v, ic⟩ := I.cell y c (hcl y c e)
    exact ⟨v, cellK y c e v ic⟩
  · have e : p = (D, o) := by simpa [cxC] using hp
    subst e
    refine ⟨hD, I.hok.fresh hDs, hDC, fun hs => ?_, hod⟩
    obtain ⟨_, o', ho', _⟩ := I.stack.mem hs
    exact absurd (Heap.lt_size ho') (Nat.not_lt.mpr hDs)
  · unfold stIn
    rw [List.length_cons, List.length_map, cap.1]
    rfl
end
abbrev NoE : Value → Shared → Prop := fun _ _ => False
abbrev testsOf (ifs : List Expr) (env : Env) : Sem Bool := forIn ifs true fun c r => if r = true then do let ok ← isTrue c env (eval c env); pure (ForInStep.yield ok) else pure (ForInStep.yield r)
def PTs (X : Cx) (ifs : List Expr) (t : TT) : Prop :=
  ∀ (pins : List (Addr × Obj)) (s : Shared) (σ : L2.St) (H : Hp) (Q : Bool → Hp → Prop), Inv X pins σ H s → t σ H Q → wpAny (model X.prog X.w) X.A (testsOf ifs X.env) (TP X pins σ Q) X.xe s
def ttNil : TT := fun _ H Q => Q true H
theorem pts_nil {X : Cx} : PTs X [] ttNil := fun _ _ _ H _ I h => wpAny_tests_nil ⟨H, I, h⟩
theorem lc_loop {prog : Program} {w : World} {A : Around} {R : Result → Shared → Prop} {s : Shared} {elt target iter : Expr} {ifs : List Expr} {scope : Scope} {pos : Pos} {it acc : Value} {env : Env} (Z : Nat → Shared → Prop)
    (turn : ∀ n z, Z n z → wpAny (model prog w) A (pyNext it) (fun r z1 => match r with
      | none => R (.ok .next) z1
      | some v => wpAny (model prog w) A (letOwnedTupleGo target it v) (fun _ z2 => wpAny (model prog w) A (assign target env v) (fun _ z3 => wpAny (model prog w) A (testsOf ifs env) (fun ok z4 => if ok = true then
          wpAny (model prog w) A (eval elt env) (fun y z5 => wpAny (model prog w) A (call (.builtin "list.append") [acc, y]) (fun _ z6 => ∃ m, m < n ∧ Z m z6) NoE z5) NoE z4 else ∃ m, m < n ∧ Z m z4) NoE z3) NoE z2) NoE z1) NoE z)
    (n : Nat) (h : Z n s) : codeAny (model prog w) A (.compLoop (.ListComp elt [⟨target, iter, ifs, 0⟩] scope pos) 0 it acc env) R s := by
  refine codeAny_loop rfl Z (fun n z hZ => ?_) n h
  show wpAny _ A ((compTurn (.ListComp elt [⟨target, iter, ifs, 0⟩] scope pos) 0 it acc env).onRaise (fun q => do noteFrame q env; theTreesLotGoes q)) _ _ z
  refine wpAny_noted ?_
  rw [compTurn_list]
  refine wpAny_bind (wpAny_standAt (wpAny_bind (wpAny_mono (turn n z hZ) (fun r z1 k1 => ?_) fun _ _ q => q.elim)))
  cases r with
  | none => exact wpAny_pure k1
  | some v =>
    refine wpAny_bind (wpAny_mono k1 (fun _ z2 k2 => ?_) fun _ _ q => q.elim)
    refine wpAny_bind (wpAny_mono k2 (fun _ z3 k3 => ?_) fun _ _ q => q.elim)
    refine wpAny_bind (wpAny_mono k3 (fun ok z4 k4 => ?_) fun _ _ q => q.elim)
    cases ok with
    | false => exact wpAny_pure ⟨rfl, k4⟩
    | true =>
      refine wpAny_bind (wpAny_bind (wpAny_mono (show wpAny _ _ _ _ _ _ from k4) (fun y z5 k5 => ?_) fun _ _ q => q.elim))
      exact wpAny_bind (wpAny_mono k5 (fun _ z6 k6 => wpAny_pure (wpAny_pure ⟨rfl, k6⟩)) fun _ _ q => q.elim)
def LcBody (J : It) (idx : List Nat) (te : TE) (σ : L2.St) (Q : VK) (H1 : Hp) : Prop := ∃ W : Nat → Nat → List V → Hp → Prop, (∃ m, W 0 m [] H1) ∧ ∀ i m ys H, W i m ys H → ys.length ≤ sizeLine ∧
  ((J.stop i H ∧ ∀ p, H p = none → Q (.ref p) (upd H p (.lst ys))) ∨ (J.go i H ∧ ∀ y H', J.yld i H y H' → te (stIn (some y) idx σ) H' fun v H2 => ∃ m', m' < m ∧ W (i + 1) m' (ys ++ [v]) H2))
def tLc (wi : TI) (idx : List Nat) (te : TE) : TE := fun σ H Q => wi σ H fun J H1 => LcBody J idx te σ Q H1
def LcBodyT (J : It) (idx : List Nat) (tt : TT) (te : TE) (σ : L2.St) (Q : VK) (H1 : Hp) : Prop := ∃ W : Nat → Nat → List V → Hp → Prop, (∃ m, W 0 m [] H1) ∧ ∀ i m ys H, W i m ys H → ys.length ≤ sizeLine ∧
  ((J.stop i H ∧ ∀ p, H p = none → Q (.ref p) (upd H p (.lst ys))) ∨ (J.go i H ∧ ∀ y H', J.yld i H y H' → tt (stIn (some y) idx σ) H' fun b H3 => if b = true then te (stIn (some y) idx σ) H3 fun v H2 => ∃ m', m' < m ∧ W (i + 1) m' (ys ++ [v]) H2
    else ∃ m', m' < m ∧ W (i + 1) m' ys H3))
theorem LcBody.toT {J : It} {idx : List Nat} {te : TE} {σ : L2.St} {Q : VK} {H1 : Hp} (h : LcBody J idx te σ Q H1) : LcBodyT J idx ttNil te σ Q H1 := by
  obtain ⟨W, w0, turn⟩ := h
  refine ⟨W, w0, fun i m ys H w => ?_⟩
  obtain ⟨hz, h⟩ := turn i m ys H w
  refine ⟨hz, h.imp id fun h => ⟨h.1, fun y H' yl => ?_⟩⟩
  show (if true = true then te (stIn (some y) idx σ) H' (fun v H2 => ∃ m', m' < m ∧ W (i + 1) m' (ys ++ [v]) H2) else ∃ m', m' < m ∧ W (i + 1) m' ys H')
  rw [if_pos rfl]
  exact h.2 y H' yl
section
variable {X : Cx} {elt iter : Expr} {ifs : List Expr} {x : Str} {px pos : Pos} {scope : Scope} {cl : List (Str × Addr)} {wi : TI} {tt : TT} {te : TE} {ns : List Str} {idx : List Nat}
structure LcEnd (X : Cx) (fp : List Addr) (H2 H4 : Hp) (s2 s5 : Shared) (C D : Addr) (ys : List V) : Prop where
  dn : D = s2.heap.objs.size
  cn : s2.heap.objs.size ≤ C
  dc : D ≠ C
  un : Un (frs X.stack) fp H2 H4 s2.heap s5.heap
  hok : HOk X.prog X.w H4 s5.heap
  cf : H4 C = none
  df : H4 D = none
  os : s5.os = s2.os
  bare : AllBare s5.gens
  ns : ∃ m, s5.heap.Ns C m
  obj : ∃ us, Vals ys us ∧ s5.heap.get? D = some (LCg.lst us)
  len : ys.length ≤ sizeLine
theorem lc_main (hc : X.calm = true) (hi : PI X (.Name x px) iter wi) (hclos : closureFor scope X.env = pure cl) (hcell : ∀ y ∈ scope.names, y.2 ≠ .cell) (hkind : scope.kind = .function)
    (hnames : ∀ y ∈ scope.names, y.2 = .local → scope.names.lookup y.1 = some .local) (hx : scope.names.lookup x = some .local) (nd : (x :: ns).Nodup) (cap : Capt X scope cl ns idx)
    (hcl : ∀ y c, cl.lookup y = some c → X.env.cells.lookup y = some c) (hfr : ∀ y, ((relabel scope X.env).names.lookup y = some .cell ∨ (relabel scope X.env).names.lookup y = some .free) → ∃ c, cl.lookup y = some c)
    (htt : ∀ (C : Addr) (s : Shared) (H : Hp) (fp : List Addr), PTs (cxC X (x :: ns) scope cl C s H fp) ifs tt) (hel : ∀ (C : Addr) (s : Shared) (H : Hp) (fp : List Addr), PE (cxC X (x :: ns) scope cl C s H fp) elt te)
    {pins : List (Addr × Obj)} {σ : L2.St} {Q : VK} {itv : Value} {s2 : Shared} {E : Value → Shared → Prop} {RR : Value → Addr → Result → Shared → Prop} (h2 : PIE X pins σ (.Name x px) (fun J H1 => LcBodyT J idx tt te σ Q H1) itv s2)
    (hRR : ∀ fp H2 H4 s5 C D ys, Inv X pins σ H2 s2 → (∀ b ∈ fp, FpOk X pins H2 b) → LcEnd X fp H2 H4 s2 s5 C D ys → Q (.ref D) (upd H4 D (.lst ys)) → RR (.ref D) C (.ok .next) s5) :
    wpAny (model X.prog X.w) X.A (newList []) (fun acc s3 => wpAny (model X.prog X.w) X.A (newFunctionEnv scope X.env.globals cl [] X.env.qual none .none (some X.env)) (fun cenv s4 =>
      codeAny (model X.prog X.w) X.A (.compStart (.ListComp elt [⟨.Name x px, iter, ifs, 0⟩] scope pos) 0 itv acc { cenv with scope := relabel scope X.env }) (RR acc cenv.locals) s4) E s3) E s2 := by
  obtain ⟨it, fp, tn, J, H2, e, I2, T, st2, f2, W, ⟨m0, w0⟩, turn⟩ := h2
  subst e
  refine wpAny_newObj_type (wpAny_newFunctionEnv hcell (by intro y hy; simp at hy) (fun h1 hns1 hsb1 => ?_) hkind)
  dsimp only at hns1 hsb1 ⊢
  generalize hH2 : s2.heap.push { cls := .type "list", dict := none, data := .seq ([] : List Value).toArray } = g2 at hns1 hsb1 ⊢
  have hC : g2.objs.size = s2.heap.objs.size + 1 := by rw [← hH2, Heap.size_push]
  have hDC : s2.heap.objs.size ≠ g2.objs.size := by rw [hC]; exact Nat.ne_of_lt (Nat.lt_succ_self _)
  have hCle : s2.heap.objs.size ≤ g2.objs.size := by rw [hC]; exact Nat.le_succ _
  have keep1 : ∀ b o, s2.heap.get? b = some o → h1.get? b = some o := fun b o e => hsb1.extBut b o (Nat.ne_of_lt (Nat.lt_of_lt_of_le (Heap.lt_size e) hCle)) (Heap.get?_push_of_some _ (hH2 ▸ Heap.get?_push_of_some _ e))
  have hacc : h1.get? s2.heap.objs.size = some { cls := .type "list", data := .seq ([] : List Value).toArray 0 } := hsb1.extBut _ _ hDC (Heap.get?_push_of_some _ (hH2 ▸ Heap.get?_push_size _ rfl))
  have lt : ∀ b ∈ fp, b < s2.heap.objs.size := fun b hb => by
    obtain ⟨o, e, _⟩ := T.obj _ _ st2 b hb
    exact Heap.lt_size e
  have hxr : (relabel scope X.env).names.lookup x = some .local := lookup_relabel_local hx
  have ok := okC (N := x :: ns) (scope := scope) (cl := cl) (C := g2.objs.size) I2 f2 lt hCle hkind hcl hfr
  have I3 := invC (D := s2.heap.objs.size) (t := s2.toks + ([] : List (Str × Value)).length) I2 ok cap hcl keep1 hCle hns1 hacc (Nat.le_refl _) hDC (fun v z => by cases z) hxr
  have fC : ∀ {H' : Hp} {pl : List (Addr × Obj)}, (∀ p ∈ pl, p.1 = s2.heap.objs.size) → (∀ b ∈ fp, H' b = none) → ∀ b ∈ fp, FpOk (cxC X (x :: ns) scope cl g2.objs.size s2 H2 fp) pl H' b := fun {H' pl} hpl hn b hb =>
    ⟨hn b hb, (ok.exf b hb).1, fun z => ok.exfs b hb z, .inl hb, (ok.exf b hb).2, fun p hp z => by
      have q := hpl p (by simpa [cxC] using hp)
      have := lt b hb
      rw [← z, q] at this
      exact Nat.lt_irrefl _ this⟩
  have lnc : ∀ us : List Value, ∀ v, (LCg.lst us).data ≠ .cell v := fun us v z => by cases z
  have loop : ∀ s3 : Shared, s3 = { s2 with heap := h1, toks := s2.toks + ([] : List (Str × Value)).length } →
      codeAny (model X.prog X.w) X.A (.compLoop (.ListComp elt [⟨.Name x px, iter, ifs, 0⟩] scope pos) 0 (.ref it) (.ref s2.heap.objs.size) (compEnvC scope cl g2.objs.size X.env))
        (RR (.ref s2.heap.objs.size) g2.objs.size) s3 := by
    rintro s3 rfl
    refine lc_loop (fun n s' => ∃ i ys us r H', Inv (cxC X (x :: ns) scope cl g2.objs.size s2 H2 fp) [(s2.heap.objs.size, LCg.lst us)] (stIn r idx σ) H' s' ∧ tn i s'.heap ∧ (∀ b ∈ fp, H' b = none) ∧ Vals ys us ∧ W i n ys H') ?_ m0
      ⟨0, [], [], none, H2, I3, T.keep _ _ _ st2 fun b _ o e => keep1 b o e, fun b hb => (f2 b hb).1, .nil, w0⟩
    rintro n s4 ⟨i, ys, us, r, H4, I4, st4, fr4, vs4, w4⟩
    obtain ⟨hz, ⟨stop, qn⟩ | ⟨go, step⟩⟩ := turn i n ys H4 w4
    · refine thn (T.done (cxC X (x :: ns) scope cl g2.objs.size s2 H2 fp) rfl rfl rfl hc i _ s4 _ H4 NoE I4 (fC (fun p hp => by rw [List.mem_singleton.mp hp]) fr4) st4 stop) fun r5 s5 ⟨hr5, I5⟩ => ?_
      subst hr5
      obtain ⟨mC, hnC, _⟩ := I5.loc
      obtain ⟨pD1, pD2, _⟩ := I5.pin (s2.heap.objs.size, LCg.lst us) (List.mem_append_right _ (List.mem_singleton.mpr rfl))
      exact hRR fp H2 H4 s5 g2.objs.size s2.heap.objs.size ys I2 f2 ⟨rfl, hCle, hDC, I5.base, I5.hok, I5.free, pD2, I5.os, I5.bare, ⟨mC, hnC⟩, ⟨us, vs4, pD1⟩, hz⟩ (qn _ pD2)
    · refine thn (T.item (cxC X (x :: ns) scope cl g2.objs.size s2 H2 fp) rfl rfl rfl hc i _ s4 _ H4 NoE I4 (fC (fun p hp => by rw [List.mem_singleton.mp hp]) fr4) st4 go) fun r5 s5 ⟨u, hr5, k5⟩ => ?_
      subst hr5
      refine thn k5 fun _ s6 ⟨y, H6, I6, r6, y6, st6, fr6⟩ => ?_
      have I6' := I6.pinned (fC (fun p hp => by rw [List.mem_singleton.mp hp]) fr6) (T.obj _ _ st6)
      have G := pg_name (X := cxC X (x :: ns) scope cl g2.objs.size s2 H2 fp) (pos := px) (i := 0) (x := x) nd rfl (.inl hxr) (.inr hxr)
      refine thn (G _ s6 _ H6 y u (fun σ' H' => σ' = stIn (some y) idx σ ∧ H' = H6) I6' r6 ⟨rfl, rfl⟩) fun _ s7 ⟨σ7, H7, I7, e7, eH⟩ => ?_
      subst e7 eH
      refine thn (htt g2.objs.size s2 H2 fp _ s7 _ _ _ I7 (step y _ y6)) fun ok s71 ⟨H71, I71, k71⟩ => ?_
      cases ok with
      | false =>
        obtain ⟨m', lm, w8⟩ := (show ∃ m', m' < n ∧ W (i + 1) m' ys H71 from k71)
        have kf : ∀ b ∈ fp, ∀ o, s6.heap.get? b = some o → s71.heap.get? b = some o ∧ H71 b = none := fun b hb o e => by
          have q := I71.pin (b, o) (List.mem_append_right _ (List.mem_append_right _ (mem_pinsAt hb e)))
          exact ⟨q.1, q.2.1⟩
        obtain ⟨pD1, pD2, pD3, pD4, _⟩ := I71.pin (s2.heap.objs.size, LCg.lst us) (by simp [cxC])
        refine ⟨m', lm, i + 1, ys, us, some y, H71, I71.pins_of fun p hp => ?_, ?_, fun b hb => ?_, vs4, w8⟩
        · rw [List.mem_singleton.mp hp]
          exact ⟨pD1, pD2, pD3, pD4, lnc _⟩
        · exact T.keep _ _ _ st6 fun b hb o e => (kf b hb o e).1
        · obtain ⟨o, e, _⟩ := T.obj _ _ st6 b hb
          exact (kf b hb o e).2
      | true =>
      refine thn (hel g2.objs.size s2 H2 fp _ s71 _ _ _ I71 k71) fun y8 s8 ⟨v, H8, I8, r8, m', lm, w8⟩ => ?_
      obtain ⟨pD1, pD2, pD3, pD4, _⟩ := I8.pin (s2.heap.objs.size, LCg.lst us) (by simp [cxC])
      have kf : ∀ b ∈ fp, ∀ o, s6.heap.get? b = some o → s8.heap.get? b = some o ∧ H8 b = none := fun b hb o e => by
        have q := I8.pin (b, o) (List.mem_append_right _ (List.mem_append_right _ (mem_pinsAt hb e)))
        exact ⟨q.1, q.2.1⟩
      refine append_at (hsz := by show us.toArray.size ≤ sizeLine; rw [List.size_toArray, ← vs4.length]; exact hz) pD1 fun h9 sb9 hD9 => ?_
      have I8' : Inv (cxC X (x :: ns) scope cl g2.objs.size s2 H2 fp) [] (stIn (some y) idx σ) H8 s8 := I8.pins_of fun p hp => nomatch hp
      have I9 := I8'.turned (it := s2.heap.objs.size) (h' := h9) (t' := s8.toks) (fun b o hb e => (sb9.2 b hb).trans e) pD2 pD3 (.inr (Nat.le_refl _)) (fun y c e z => by
          obtain ⟨v, q⟩ := I2.cell y c (hcl y c e)
          exact absurd q.lt (by rw [z]; exact Nat.lt_irrefl _)) (fun p hp => by simp [cxC] at hp)
      refine ⟨m', lm, i + 1, ys ++ [v], us ++ [y8], some y, H8, I9.pins_of fun p hp => ?_, ?_, fun b hb => ?_, vs4.append (.cons r8 .nil), w8⟩
      · rw [List.mem_singleton.mp hp]
        exact ⟨hD9.trans (congrArg some (LCg.lst_snoc us y8)), pD2, pD3, pD4, lnc _⟩
      · exact T.keep _ _ _ st6 fun b hb o e => (sb9.2 b (Nat.ne_of_lt (lt b hb))).trans (kf b hb o e).1
      · obtain ⟨o, e, _⟩ := T.obj _ _ st6 b hb
        exact (kf b hb o e).2
  exact codeAny_compStart_list (loop _ rfl) (T.self _ 0 _ _ _ (T.keep _ _ _ st2 fun b _ o e => keep1 b o e) (loop _ rfl))
theorem LcEnd.inv {fp : List Addr} {H2 H4 : Hp} {s2 s5 : Shared} {C D : Addr} {ys : List V} {pins : List (Addr × Obj)} {σ : L2.St} {h' : Heap} (L : LcEnd X fp H2 H4 s2 s5 C D ys) (I2 : Inv X pins σ H2 s2) (f2 : ∀ b ∈ fp, FpOk X pins H2 b) (sb : Heap.SameBut C s5.heap h') :
    Inv X pins σ (upd H4 D (.lst ys)) { s5 with heap := h' } := by
  obtain ⟨rfl, hCle, hDC, U, hok, cf, pD2, eo, bare, ⟨mC, hnC⟩, ⟨us, vs4, pD1⟩, hz⟩ := L
  have neC : ∀ b o, s2.heap.get? b = some o → b ≠ C := fun b o e => Nat.ne_of_lt (Nat.lt_of_lt_of_le (Heap.lt_size e) hCle)
  have U' : Un (frs X.stack) fp H2 H4 s2.heap h' := ⟨fun b o e n hb hx => (sb.2 b (neC b o e)).trans (U.keep b o e n hb hx), fun b o e n hb hx => by
      obtain ⟨sl, q⟩ := U.slot b o e n hb hx
      exact ⟨sl, (sb.2 b (neC b o e)).trans q⟩, U.free, fun b o e hx => by
      obtain ⟨o', q⟩ := U.there b o e hx
      exact ⟨o', (sb.2 b (neC b o e)).trans q⟩, U.tups, U.frzs, U.tbls⟩
  have hok' : HOk X.prog X.w H4 h' := fun a o e => by
    refine (hok a o e).stay (fun b u hb q => (sb.2 b ?_).trans q) (fun _ z => z) fun _ _ z => z
    rintro rfl
    rcases hb with hb | hb
    · rw [← hb, cf] at e; cases e
    · rw [cf] at hb; cases hb
  have I6 := I2.call (ch := fp) (h' := h') (g' := s5.gens) (t' := s5.toks) (d' := s5.drawn) U' hok' bare fun b hb => ⟨(f2 b hb).2.2.2.1, (f2 b hb).2.1, (f2 b hb).2.2.2.2.1, (f2 b hb).2.2.2.2.2⟩
  have I7 := Inv.adopt (x := s2.heap.objs.size) (o := .lst ys) (fun y c e z => by
      obtain ⟨v, q⟩ := I2.cell y c e
      exact absurd q.lt (by rw [z]; exact Nat.lt_irrefl _)) I6 (Heap.get?_none_of_le I2.sz) pD2 (Nat.ne_of_gt I2.lt) (fun p hp z => by
      have := Heap.lt_size (I2.pin p hp).1
      rw [z] at this
      exact Nat.lt_irrefl _ this) ⟨hz, us, us.length, vs4, (sb.2 _ hDC).trans pD1⟩
  rw [← eo] at I7
  exact I7
theorem pie_toT {pins : List (Addr × Obj)} {σ : L2.St} {tg : Expr} {Q : VK} {itv : Value} {s2 : Shared} (h : PIE X pins σ tg (fun J H1 => LcBody J idx te σ Q H1) itv s2) : PIE X pins σ tg (fun J H1 => LcBodyT J idx ttNil te σ Q H1) itv s2 := by
  obtain ⟨it, fp, tn, J, H', a, b, c, d, e, q⟩ := h
  exact ⟨it, fp, tn, J, H', a, b, c, d, e, q.toT⟩
theorem pe_lc (hc : X.calm = true) (hi : PI X (.Name x px) iter wi) (hclos : closureFor scope X.env = pure cl) (hcell : ∀ y ∈ scope.names, y.2 ≠ .cell) (hkind : scope.kind = .function)
    (hnames : ∀ y ∈ scope.names, y.2 = .local → scope.names.lookup y.1 = some .local) (hx : scope.names.lookup x = some .local) (nd : (x :: ns).Nodup) (cap : Capt X scope cl ns idx)
    (hcl : ∀ y c, cl.lookup y = some c → X.env.cells.lookup y = some c) (hfr : ∀ y, ((relabel scope X.env).names.lookup y = some .cell ∨ (relabel scope X.env).names.lookup y = some .free) → ∃ c, cl.lookup y = some c)
    (hel : ∀ (C : Addr) (s : Shared) (H : Hp) (fp : List Addr), PE (cxC X (x :: ns) scope cl C s H fp) elt te) (hs : ∀ v, foldedSetIterable iter X.env v = pure v := by intro _; rfl) :
    PE X (.ListComp elt [⟨.Name x px, iter, [], 0⟩] scope pos) (tLc wi idx te) := by
  intro pins s σ H Q I h
  rw [eval_ListComp]
  refine wpAny_comprehension_free (use := none) rfl hs hclos hkind hnames (thn (hi pins s σ H _ I h) fun v s1 h1 => thn h1 fun itv s2 h2 => ?_)
  refine lc_main (tt := ttNil) hc hi hclos hcell hkind hnames hx nd cap hcl hfr (fun _ _ _ _ => pts_nil) hel (RR := fun acc C => compPost (model X.prog X.w) X.A X.xe none (EP X pins σ Q) acc C) (pie_toT h2) fun fp H2 H4 s5 C D ys I2 f2 L q => ?_
  obtain ⟨mC, hnC⟩ := L.ns
  exact ⟨mC, hnC, fun h' sb => ⟨.ref D, _, L.inv I2 f2 sb, rfl, q⟩⟩
end
end Kw
set_option Elab.async false
set_option linter.all false
set_option maxRecDepth 100000
set_option maxHeartbeats 4000000
namespace Kw
open PySem PySem.Spec PyProof.Rows L2
theorem all_range_bl (bs : List Bool) : (List.range bs.length).all (fun i => bs.getD i false) = bs.all id := by
  rw [Bool.eq_iff_iff, List.all_eq_true, List.all_eq_true]
  constructor
  · intro h b hb
    obtain ⟨i, hi, rfl⟩ := List.mem_iff_getElem.mp hb
    have := h i (List.mem_range.mpr hi)
    simpa [List.getD, hi] using this
  · intro h i hi
    have hi' := List.mem_range.mp hi
    have := h bs[i] (List.getElem_mem hi')
    simpa [List.getD, hi'] using this
section
variable {X : Cx}
def rAll (K : PySem.W.Frag) : List V → Hp → VK → Prop := fun xs H Q => ∃ p, ∃ bs : List Bool, xs = [.ref p] ∧ SqL K H p (bs.map V.bl) ∧ Q (.bl (bs.all id)) H
theorem call_all {K : PySem.W.Frag} (hK : X.K = K) (hc : X.calm = true) : CallR X (.builtin "all") (rAll K) := by
  subst hK
  intro pins s σ H xs us Q I r h
  obtain ⟨p, bs, rfl, hp, q⟩ := h
  obtain ⟨u, rfl, rx⟩ := vals1 r
  cases rx
  obtain ⟨its, r', pl, hz⟩ := I.list hp
  have hlen := r'.length
  rw [List.length_map] at hlen
  have hlt : p < s.heap.objs.size := by
    obtain ⟨o, n, e, _⟩ := pl
    exact Heap.lt_size e
  refine call_all_walk (wpAny_pyIter_list pl.isList ?_)
  refine ⟨s.heap.objs.size, [s.heap.objs.size, p], [s.heap.objs.size], its.toArray.size, fun i v => its.toArray[i]? = some v, fun i h => h.IsListIter s.heap.objs.size p i ∧ h.IsList p its.toArray, fun i => bs.getD i false, rfl, Walks.list (A := X.A.in1) (I.ok.hd hc) s.heap.objs.size p (Nat.ne_of_lt hlt) its.toArray, ⟨⟨_, Heap.get?_push_size _ rfl, rfl, rfl⟩, pl.isList.push _⟩, ?_, fun h' tk kk => ?_⟩
  · intro i v z Q' E' hv hq
    have hv' : its[i]? = some v := by simpa using hv
    obtain ⟨hi, e⟩ := List.getElem?_eq_some_iff.mp hv'
    have hi' : i < bs.length := by omega
    have eb : (bs.map V.bl)[i]? = some (V.bl bs[i]) := by rw [List.getElem?_map, List.getElem?_eq_getElem hi']; rfl
    obtain ⟨w', hw, rw'⟩ := r'.get eb
    rw [hv'] at hw
    cases hw
    cases (show v = Value.bool bs[i] from rw')
    have e2 : bs.getD i false = bs[i] := by simp [List.getD, hi']
    dsimp only at hq
    rw [e2] at hq
    exact wpAny_truthy_bool hq
  · rw [List.size_toArray, ← hlen, all_range_bl]
    refine ⟨.bl (bs.all id), H, I.kept (t' := tk) fun b o e => ?_, rfl, q⟩
    exact kk b o (fun z => by
      have e' := List.mem_singleton.mp z
      have := Heap.lt_size e
      rw [e'] at this
      exact Nat.lt_irrefl _ this) (Heap.get?_push_of_some _ e)
end
end Kw
namespace Kw
open PySem PySem.Spec PyProof.Rows L2
section
variable {prog : Program} {w : World} {A : Around} {E : Value → Shared → Prop} {s : Shared} {I l S : Addr} {items : Array Value}
end
end Kw
namespace Kw
open PySem PySem.Spec PyProof.Rows L2
section
variable {X : Cx}
end
end Kw
set_option Elab.async false
set_option linter.all false
set_option maxRecDepth 100000
set_option maxHeartbeats 4000000
namespace Kw
open PySem PySem.Spec PyProof.Rows L2
section
variable {X : Cx}
end
end Kw
set_option Elab.async false
set_option linter.all false
set_option maxRecDepth 100000
set_option maxHeartbeats 4000000
namespace Kw
open PySem PySem.Spec PyProof.Rows L2
section
variable {K : PySem.W.Frag} {idx : List Nat} {te : TE} {σ : L2.St} {H : Hp} {Q : VK}
theorem lc_list {a : Addr} {xs : List V} (Pv : Nat → List V → Hp → Prop) (h0 : Pv 0 [] H) (hz : xs.length ≤ sizeLine) (hy : ∀ i ys H, Pv i ys H → ys.length = i) (hl : ∀ i ys H, Pv i ys H → SqL K H a xs)
    (hs : ∀ i x ys H (Q' : VK), xs[i]? = some x → Pv i ys H → (∀ v H2, Pv (i + 1) (ys ++ [v]) H2 → Q' v H2) → te (stIn (some x) idx σ) H Q') (hd : ∀ ys H, Pv xs.length ys H → ∀ p, H p = none → Q (.ref p) (upd H p (.lst ys))) :
    LcBody (Itl K a) idx te σ Q H := by
  refine ⟨fun i m ys H => m = xs.length - i ∧ i ≤ xs.length ∧ Pv i ys H, ⟨xs.length, by simp, Nat.zero_le _, h0⟩, ?_⟩
  rintro i m ys H ⟨rfl, hi, p⟩
  have q := hl i ys H p
  refine ⟨by rw [hy i ys H p]; omega, ?_⟩
  by_cases hlt : i < xs.length
  · refine .inr ⟨⟨xs, xs[i], q, by simp [hlt]⟩, fun y H' yl => ?_⟩
    obtain ⟨e, yl⟩ := yl
    subst e
    exact hs i y ys _ _ (yl xs q) p fun v H2 z => ⟨xs.length - (i + 1), by omega, rfl, hlt, z⟩
  · have e : i = xs.length := by omega
    subst e
    exact .inl ⟨⟨xs, q, Nat.le_refl _⟩, hd ys H p⟩
end
theorem no_free {names : List (Str × NameKind)} {cl : List (Str × Addr)} (h : names.all (fun z => z.2 != .cell && z.2 != .free) = true) : ∀ y, (names.lookup y = some .cell ∨ names.lookup y = some .free) → ∃ c, cl.lookup y = some c := fun y hy => by
  have mem : ∀ (l : List (Str × NameKind)) k, l.lookup y = some k → ∃ z ∈ l, z.2 = k := fun l => by
    induction l with
    | nil => intro k e; cases e
    | cons a r ih =>
      intro k e
      rw [List.lookup_cons] at e
      split at e
      · exact ⟨a, List.mem_cons_self, Option.some.inj e⟩
      · obtain ⟨z, hz, ez⟩ := ih k e
        exact ⟨z, List.mem_cons_of_mem _ hz, ez⟩
  rcases hy with e | e
  all_goals
    obtain ⟨z, hz, ez⟩ := mem _ _ e
    have := List.all_eq_true.mp h z hz
    rw [ez] at this
    simp at this
theorem cap_none {X : Cx} {scope : Scope} {cl : List (Str × Addr)} : Capt X scope cl [] [] := ⟨rfl, fun k y h => by simp at h⟩
end Kw
namespace Kw
open PySem PySem.Spec PyProof.Rows L2
section
variable {K : PySem.W.Frag} {H H' : Hp} {b : Addr} {v : V}
inductive Th (b : Addr) (H : Hp) : V → Prop
  | non : Th b H .non
  | bl (c : Bool) : Th b H (.bl c)
  | int {i : Int} (h : Bd 3000 i) : Th b H (.int i)
  | s1 : Th b H (.str "1")
  | s0 : Th b H (.str "")
  | tup {p : Addr} {xs : List V} (n : p ≠ b) (e : H p = some (.tup xs)) (h : ∀ x ∈ xs, Th b H x) : Th b H (.ref p)
  | lst {p : Addr} {xs : List V} (n : p ≠ b) (l : xs.length ≤ 100) (e : H p = some (.lst xs)) (h : ∀ x ∈ xs, Th b H x) : Th b H (.ref p)
  | dct {p : Addr} (n : p ≠ b) (e : H p = some (.dK [(.inr "a", .int 1)])) : Th b H (.ref p)
theorem Th.but (h : Th b H v) (s : But b H H') : Th b H' v := by
  induction h with
  | non => exact .non
  | bl c => exact .bl c
  | int h => exact .int h
  | s1 => exact .s1
  | s0 => exact .s0
  | tup n e _ ih => exact .tup n (s _ _ n e) ih
  | lst n l e _ ih => exact .lst n l (s _ _ n e) ih
  | dct n e => exact .dct n (s _ _ n e)
theorem Th.same (h : Th b H v) (s : Same H H') : Th b H' v := h.but (.of s)
theorem Th.whole (h : Th b H v) : WhN K H v ∨ ∃ i, v = .int i ∧ Bd 3000 i := by
  cases h with
  | non => exact .inl ⟨_, _, _, .non, kit_non_int, kit_non_bool, rfl⟩
  | bl c => exact .inl ⟨_, _, _, .bl c, kit_bl_int, kit_bl_bl, rfl⟩
  | int h => exact .inr ⟨_, rfl, h⟩
  | s1 => exact .inl ⟨_, _, _, .str _, kit_str_int, kit_str_bool, rfl⟩
  | s0 => exact .inl ⟨_, _, _, .str _, kit_str_int, kit_str_bool, rfl⟩
  | tup n e h => exact .inl (whn_tup e)
  | lst n l e h => exact .inl (whn_lst e)
  | dct n e => exact .inl ⟨_, _, _, .dK e, kit_dct_int, kit_dct_bool, rfl⟩
theorem Th.tupOr (h : Th b H v) : (∃ t, TyOf K H v t ∧ PySem.W.kitOne K t (.type "tuple") = some false) ∨ ∃ p xs, v = .ref p ∧ H p = some (.tup xs) ∧ ∀ x ∈ xs, Th b H x := by
  cases h with
  | non => exact .inl ⟨_, .non, kit_non_tup⟩
  | bl c => exact .inl ⟨_, .bl c, kit_bl_tup⟩
  | int h => exact .inl ⟨_, .int _, kit_int_tup⟩
  | s1 => exact .inl ⟨_, .str _, kit_str_tup⟩
  | s0 => exact .inl ⟨_, .str _, kit_str_tup⟩
  | tup n e h => exact .inr ⟨_, _, rfl, e, h⟩
  | lst n l e h => exact .inl ⟨_, .lst e, kit_lst_tup⟩
  | dct n e => exact .inl ⟨_, .dK e, kit_dct_tup⟩
def FracC (K : PySem.W.Frag) (H : Hp) (x : V) (c : Bool) : Prop :=
  (c = false ∧ ∃ t, TyOf K H x t ∧ PySem.W.kitOne K t (.type "tuple") = some false) ∨ (c = false ∧ ∃ p xs, x = .ref p ∧ H p = some (.tup xs) ∧ xs.length ≠ 2) ∨
  (c = false ∧ ∃ p u v, x = .ref p ∧ H p = some (.tup [u, v]) ∧ (WhN K H u ∨ (∃ i, u = .int i) ∧ WhN K H v)) ∨
  ∃ p i j, x = .ref p ∧ H p = some (.tup [.int i, .int j]) ∧ Bd 3000 i ∧ Bd 3000 j ∧ c = (decide (1 ≤ j) && decide (((Int.gcd i j : Nat) : Int) = 1))
theorem FracC.toB {x : V} {c : Bool} (h : FracC K H x c) : FracB K H x c := by
  rcases h with h | h | h | ⟨p, i, j, a, d, _, bj, e⟩
  · exact .inl h
  · exact .inr (.inl h)
  · exact .inr (.inr (.inl h))
  · exact .inr (.inr (.inr ⟨p, i, j, a, d, bj.mono (by decide), e⟩))
theorem FracC.same {x : V} {c : Bool} (h : FracC K H x c) (s : Same H H') : FracC K H' x c := by
  rcases h with ⟨e, t, a, d⟩ | ⟨e, p, xs, a, d, f⟩ | ⟨e, p, u, v, a, d, f⟩ | ⟨p, i, j, a, d, f⟩
  · exact .inl ⟨e, t, TyOf.same a s, d⟩
  · exact .inr (.inl ⟨e, p, xs, a, s _ _ d, f⟩)
  · exact .inr (.inr (.inl ⟨e, p, u, v, a, s _ _ d, f.imp (·.same s) fun z => ⟨z.1, z.2.same s⟩⟩))
  · exact .inr (.inr (.inr ⟨p, i, j, a, s _ _ d, f⟩))
theorem Th.frac (h : Th b H v) : ∃ c, FracC K H v c := by
  rcases h.tupOr (K := K) with h | ⟨p, xs, rfl, e, hx⟩
  · exact ⟨false, .inl ⟨rfl, h⟩⟩
  match xs, e, hx with
  | [u, v], e, hx =>
    rcases (hx u (by simp)).whole (K := K) with h1 | ⟨i, rfl, h1⟩
    · exact ⟨false, .inr (.inr (.inl ⟨rfl, p, u, v, rfl, e, .inl h1⟩))⟩
    · rcases (hx v (by simp)).whole (K := K) with h2 | ⟨j, rfl, h2⟩
      · exact ⟨false, .inr (.inr (.inl ⟨rfl, p, _, v, rfl, e, .inr ⟨⟨i, rfl⟩, h2⟩⟩))⟩
      · exact ⟨_, .inr (.inr (.inr ⟨p, i, j, rfl, e, h1, h2, rfl⟩))⟩
  | [], e, _ => exact ⟨false, .inr (.inl ⟨rfl, p, _, rfl, e, by simp⟩)⟩
  | [_], e, _ => exact ⟨false, .inr (.inl ⟨rfl, p, _, rfl, e, by simp⟩)⟩
  | _ :: _ :: _ :: _, e, _ => exact ⟨false, .inr (.inl ⟨rfl, p, _, rfl, e, by simp⟩)⟩
def WtC (K : PySem.W.Frag) (H : Hp) (x : V) (c : Bool) : Prop := (c = false ∧ WhN K H x) ∨ ∃ i, x = .int i ∧ c = (decide (1 ≤ i) && decide (i ≤ 1000))
theorem Th.wt (h : Th b H v) : ∃ c, WtC K H v c := by
  rcases h.whole (K := K) with h | ⟨i, rfl, _⟩
  · exact ⟨false, .inl ⟨rfl, h⟩⟩
  · exact ⟨_, .inr ⟨i, rfl, rfl⟩⟩
theorem WtC.same {x : V} {c : Bool} (h : WtC K H x c) (s : Same H H') : WtC K H' x c := by
  rcases h with ⟨e, h⟩ | h
  · exact .inl ⟨e, h.same s⟩
  · exact .inr h
end
end Kw
namespace Kw
open PySem PySem.Spec PyProof.Rows L2
section
variable {K : PySem.W.Frag} {H H' : Hp} {b c : Addr} {x : V}
theorem Odd.th {d : Bool} {ys : List V} (h : Odd H x d) (hb : H b = some (.lst ys)) (hn : ∀ p, x = .ref p → p ≠ b) : Th b H x := by
  have i1 : Th b H (.int 1) := .int ((Bd.small (by decide) (by decide)).mono (by decide))
  cases h with
  | non => exact .non
  | bl d => exact .bl d
  | s1 => exact .s1
  | s0 => exact .s0
  | one e => exact .tup (hn _ rfl) e fun x hx => by simp only [List.mem_cons, List.not_mem_nil, or_false, or_self] at hx; subst hx; exact i1
  | lst e => exact .lst (hn _ rfl) (by decide) e fun x hx => by simp only [List.mem_cons, List.not_mem_nil, or_false] at hx; subst hx; exact i1
  | dct e => exact .dct (hn _ rfl) e
  | nil e => exact .tup (hn _ rfl) e fun x hx => nomatch hx
end
end Kw
namespace Kw
open PySem PySem.Spec PyProof.Rows L2
theorem cap_one {X : Cx} {scope : Scope} {cl : List (Str × Addr)} {y : Str} {j : Nat} {c : Addr} (h1 : X.N[j]? = some y) (h2 : X.env.kindOf y = some .cell) (h3 : X.env.cells.lookup y = some c) (h4 : cl.lookup y = some c)
    (h5 : (relabel scope X.env).names.lookup y = some .cell ∨ (relabel scope X.env).names.lookup y = some .free) : Capt X scope cl [y] [j] :=
  ⟨rfl, fun k z h => by
    cases k with
    | zero => cases h; exact ⟨j, c, rfl, h1, h2, h3, h4, h5⟩
    | succ k => simp at h⟩
theorem cap_fr {names : List (Str × NameKind)} {cl : List (Str × Addr)} (h : names.all (fun z => (z.2 != .cell && z.2 != .free) || (cl.lookup z.1).isSome) = true) : ∀ y, (names.lookup y = some .cell ∨ names.lookup y = some .free) → ∃ c, cl.lookup y = some c := fun y hy => by
  have mem : ∀ (l : List (Str × NameKind)) k, l.lookup y = some k → (y, k) ∈ l := fun l => by
    induction l with
    | nil => intro k e; cases e
    | cons a r ih =>
      intro k e
      rw [List.lookup_cons] at e
      split at e
      · rename_i q
        have e1 : y = a.1 := by simpa using q
        have e2 := Option.some.inj e
        rw [e1, ← e2]
        exact List.mem_cons_self
      · exact List.mem_cons_of_mem _ (ih k e)
  rcases hy with e | e
  all_goals
    have := List.all_eq_true.mp h _ (mem _ _ e)
    exact Option.isSome_iff_exists.mp (by simpa using this)
end Kw
theorem Kw.ixT {X : L2.Cx} {K : PySem.W.Frag} (hK : X.K = K) : L2.IxR X (L2.rIxT K) := by
  subst hK
  exact L2.ix_tup
namespace Kw
open PySem PySem.Spec PyProof.Rows L2
section
variable {K : PySem.W.Frag} {H : Hp} {b : Addr} {x : V}
end
end Kw
set_option maxRecDepth 100000
namespace Kw
theorem q_of {n d : Int} (hd : 0 < d) (hg : Int.gcd n d = 1) : (Rat.divInt n d).num = n ∧ (((Rat.divInt n d).den : Nat) : Int) = d := by
  rw [Rat.num_divInt, Rat.den_divInt, Int.gcd_comm, hg, Int.sign_eq_one_of_pos hd, if_neg (by omega)]
  constructor
  · simp
  · simp; omega
theorem q_is {q : Rat} {n d : Int} (hd : 0 < d) (hg : Int.gcd n d = 1) (e : q = Rat.divInt n d) : n = q.num ∧ d = ((q.den : Nat) : Int) := by
  subst e
  obtain ⟨a, b⟩ := q_of hd hg
  exact ⟨a.symm, b.symm⟩
theorem gcd_fT_fB {t b : Int} (h : b ≠ 0) : Int.gcd (fT t b) (fB t b) = 1 := by
  have hp : 0 < Int.gcd t b := Int.gcd_pos_of_ne_zero_right _ h
  have e1 := fT_mul t b
  have e2 := fB_mul t b
  have e : Int.gcd (dv t b * fT t b) (dv t b * fB t b) = (dv t b).natAbs * Int.gcd (fT t b) (fB t b) := Int.gcd_mul_left ..
  rw [e1, e2] at e
  have hn : (dv t b).natAbs = Int.gcd t b := by unfold dv; split <;> simp
  rw [hn] at e
  exact Nat.eq_of_mul_eq_mul_left hp (by omega)
theorem q_fit {t b : Int} (h : b ≠ 0) : fT t b = (Rat.divInt t b).num ∧ fB t b = (((Rat.divInt t b).den : Nat) : Int) := by
  refine q_is (fB_pos h) (gcd_fT_fB h) ?_
  have e := Rat.divInt_mul_left (n := fT t b) (d := fB t b) (dv_ne (t := t) h)
  rw [fT_mul, fB_mul] at e
  exact e
theorem q_red (q : Rat) : Int.gcd q.num ((q.den : Nat) : Int) = 1 := by
  have := q.reduced
  simpa [Int.gcd, Nat.Coprime] using this
theorem q_pos (q : Rat) : 0 < ((q.den : Nat) : Int) := by
  have := q.den_nz
  omega
theorem q_add (x y : Rat) : Rat.divInt (x.num * y.den + y.num * x.den) (x.den * y.den) = x + y := by
  conv => rhs; rw [← Rat.num_divInt_den x, ← Rat.num_divInt_den y]
  rw [Rat.divInt_add_divInt _ _ (by have := q_pos x; omega) (by have := q_pos y; omega)]
theorem q_inv (y : Rat) : Rat.divInt y.den y.num = y⁻¹ := by
  conv => rhs; rw [← Rat.num_divInt_den y]
  rw [Rat.inv_divInt]
theorem q_div (x y : Rat) : Rat.divInt (x.num * y.den) (x.den * y.num) = x / y := by
  rw [Rat.div_def, ← q_inv]
  conv => rhs; rw [← Rat.num_divInt_den x]
  rw [Rat.divInt_mul_divInt]
theorem q_lt (x y : Rat) : x < y ↔ x.num * y.den < y.num * x.den := Rat.lt_iff x y
theorem fd_mul {x g : Int} (h : g ∣ x) : g * x.fdiv g = x := Int.mul_fdiv_cancel' h
theorem cop_dvd {a b b' : Int} (h : Int.gcd a b = 1) (d : b' ∣ b) : Int.gcd a b' = 1 := by
  have h1 : Int.gcd a b' ∣ Int.gcd a b := Int.dvd_gcd (Int.gcd_dvd_left ..) (Int.dvd_trans (Int.gcd_dvd_right ..) d)
  rw [h] at h1
  exact Nat.dvd_one.mp h1
theorem cop_mul {a b c : Int} (h : Int.gcd a b = 1) (k : Int.gcd a c = 1) : Int.gcd a (b * c) = 1 := by
  show Nat.gcd a.natAbs (b * c).natAbs = 1
  rw [Int.natAbs_mul]
  exact Nat.Coprime.mul_right h k
theorem cop_add {a b c : Int} (h : Int.gcd a b = 1) : Int.gcd (a + c * b) b = 1 := by
  rw [Int.gcd_add_mul_right_left]; exact h
theorem cop_quot {a b : Int} (h : b ≠ 0) (g : Int) (hg : g = ((Int.gcd a b : Nat) : Int)) : Int.gcd (a.fdiv g) (b.fdiv g) = 1 := by
  have hp : 0 < Int.gcd a b := Int.gcd_pos_of_ne_zero_right _ h
  have e1 : g * a.fdiv g = a := fd_mul (by rw [hg]; exact Int.gcd_dvd_left ..)
  have e2 : g * b.fdiv g = b := fd_mul (by rw [hg]; exact Int.gcd_dvd_right ..)
  have e : Int.gcd (g * a.fdiv g) (g * b.fdiv g) = g.natAbs * Int.gcd (a.fdiv g) (b.fdiv g) := Int.gcd_mul_left ..
  rw [e1, e2] at e
  have hn : g.natAbs = Int.gcd a b := by rw [hg]; simp
  rw [hn] at e
  exact Nat.eq_of_mul_eq_mul_left hp (by omega)
theorem quot_pos {b g : Int} (hb : 0 < b) (hg : 0 < g) (d : g ∣ b) : 0 < b.fdiv g := by
  have e := fd_mul d
  refine Int.not_le.mp fun q => ?_
  have := Int.mul_nonpos_of_nonneg_of_nonpos (Int.le_of_lt hg) q
  omega
theorem gpos {a b : Int} (h : b ≠ 0) : 0 < ((Int.gcd a b : Nat) : Int) := by
  have := Int.gcd_pos_of_ne_zero_right a h
  omega
theorem q_plus (x y : Rat) (g t h : Int) (hg : g = ((Int.gcd ((x.den : Nat) : Int) ((y.den : Nat) : Int) : Nat) : Int)) (ht : t = x.num * ((y.den : Nat) : Int).fdiv g + y.num * ((x.den : Nat) : Int).fdiv g) (hh : h = ((Int.gcd t g : Nat) : Int)) :
    t.fdiv h = (x + y).num ∧ ((x.den : Nat) : Int).fdiv g * ((y.den : Nat) : Int).fdiv h = (((x + y).den : Nat) : Int) := by
  have hb := q_pos x
  have hd := q_pos y
  have rx := q_red x
  have ry := q_red y
  have ea := q_add x y
  revert hb hd rx ry hg ht ea
  generalize x.num = a
  generalize y.num = c
  generalize ((x.den : Nat) : Int) = b
  generalize ((y.den : Nat) : Int) = d
  intro hg ht hb hd rx ry ea
  have g0 : 0 < g := by rw [hg]; exact gpos (by omega)
  have h0 : 0 < h := by rw [hh]; exact gpos (by omega)
  have gb : g ∣ b := by rw [hg]; exact Int.gcd_dvd_left ..
  have gd : g ∣ d := by rw [hg]; exact Int.gcd_dvd_right ..
  have hht : h ∣ t := by rw [hh]; exact Int.gcd_dvd_left ..
  have hhg : h ∣ g := by rw [hh]; exact Int.gcd_dvd_right ..
  have eb := fd_mul gb
  have ed := fd_mul gd
  have et := fd_mul hht
  have eg := fd_mul hhg
  have b0 := quot_pos hb g0 gb
  have d0 := quot_pos hd g0 gd
  have k0 := quot_pos g0 h0 hhg
  have cbd : Int.gcd (b.fdiv g) (d.fdiv g) = 1 := cop_quot (by omega) g hg
  have ctg : Int.gcd (t.fdiv h) (g.fdiv h) = 1 := cop_quot (by omega) h hh
  have dh : d.fdiv h = g.fdiv h * d.fdiv g := by
    have e := fd_mul (Int.dvd_trans hhg gd)
    have e2 : h * (g.fdiv h * d.fdiv g) = d := by rw [← Int.mul_assoc, eg, ed]
    exact Int.eq_of_mul_eq_mul_left (by omega) (e.trans e2.symm)
  have ct1 : Int.gcd t (b.fdiv g) = 1 := by
    rw [ht]
    refine cop_add ?_
    rw [Int.gcd_comm]
    exact cop_mul (by rw [Int.gcd_comm]; exact cop_dvd rx ⟨g, by rw [Int.mul_comm]; exact eb.symm⟩) cbd
  have ct2 : Int.gcd t (d.fdiv g) = 1 := by
    rw [ht, Int.add_comm]
    refine cop_add ?_
    rw [Int.gcd_comm]
    exact cop_mul (by rw [Int.gcd_comm]; exact cop_dvd ry ⟨g, by rw [Int.mul_comm]; exact ed.symm⟩) (by rw [Int.gcd_comm]; exact cbd)
  have sub : ∀ z, Int.gcd t z = 1 → Int.gcd (t.fdiv h) z = 1 := fun z hz => by
    rw [Int.gcd_comm] at hz ⊢
    exact cop_dvd hz ⟨h, by rw [Int.mul_comm]; exact et.symm⟩
  rw [dh]
  refine q_is ?_ ?_ ?_
  · exact Int.mul_pos b0 (Int.mul_pos k0 d0)
  · exact cop_mul (sub _ ct1) (cop_mul ctg (sub _ ct2))
  · rw [← ea]
    have z := Rat.divInt_mul_left (n := t.fdiv h) (d := b.fdiv g * (g.fdiv h * d.fdiv g)) (a := g * h) (by have := Int.mul_pos g0 h0; omega)
    rw [← z]
    congr 1
    · rw [Int.mul_assoc, et, ht, Int.mul_add]
      congr 1
      · rw [← Int.mul_assoc, Int.mul_comm g, Int.mul_assoc, ed]
      · rw [← Int.mul_assoc, Int.mul_comm g, Int.mul_assoc, eb]
    · rw [show g * h * (b.fdiv g * (g.fdiv h * d.fdiv g)) = (g * b.fdiv g) * ((h * g.fdiv h) * d.fdiv g) by grind, eb, eg, ed]
theorem q_dv (a b : Int) : Rat.divInt a b = (a : Rat) / (b : Rat) := by
  have h := q_div (a : Rat) (b : Rat)
  have e1 : (a : Rat).num * (((b : Rat).den : Nat) : Int) = a := by show a * 1 = a; omega
  have e2 : (((a : Rat).den : Nat) : Int) * (b : Rat).num = b := by show 1 * b = b; omega
  rw [e1, e2] at h
  exact h
theorem q_wpos {i : Int} (h : 1 ≤ i) : (0 : Rat) < (i : Rat) := by
  have : ((0 : Int) : Rat) < (i : Rat) := Rat.intCast_lt_intCast.mpr (by omega)
  exact this
theorem q_divpos {a b : Int} (ha : 0 < a) (hb : 0 < b) : (0 : Rat) < Rat.divInt a b := by
  rw [q_dv]
  rw [Rat.div_def]
  exact Rat.mul_pos (q_wpos (by omega)) (Rat.inv_pos.mpr (q_wpos (by omega)))
end Kw
set_option Elab.async false
set_option linter.all false
set_option maxRecDepth 100000
set_option maxHeartbeats 4000000
namespace Kw
open PySem PySem.Spec PyProof.Rows L2
abbrev FQ (K : PySem.W.Frag) (H : Hp) (p : Addr) (x : Rat) : Prop := SqT K H p [.int x.num, .int ((x.den : Nat) : Int)]
section
variable {K : PySem.W.Frag} {H H' : Hp} {p q : Addr} {x y : Rat} {m n : Nat}
theorem FQ.cast (h : FQ K H p x) (e : x = y) : FQ K H p y := e ▸ h
theorem FQ.lit {t b : Int} (h : SqT K H p [.int t, .int b]) (e1 : 0 < b) (e2 : Int.gcd t b = 1) : FQ K H p (Rat.divInt t b) := by
  obtain ⟨z1, z2⟩ := q_of e1 e2
  unfold FQ
  rw [z1, z2]
  exact h
def FB (n : Nat) (x : Rat) : Prop := Bd n x.num ∧ Bd n ((x.den : Nat) : Int)
theorem FB.mono (h : FB m x) (l : m ≤ n) : FB n x := ⟨h.1.mono l, h.2.mono l⟩
theorem FB.fit {t b : Int} (h : b ≠ 0) (g1 : Bd n t) (g2 : Bd n b) : FB n (Rat.divInt t b) := by
  obtain ⟨e1, e2⟩ := q_fit (t := t) h
  refine ⟨?_, ?_⟩
  · rw [← e1]; exact bd_fT h g1
  · rw [← e2]; exact bd_fB h g2
theorem q_ne (x : Rat) : ((x.den : Nat) : Int) ≠ 0 := by have := q_pos x; omega
theorem FB.add (h : FB m x) (g : FB n y) : FB (m + n + 1) (x + y) := by
  rw [← q_add]
  exact FB.fit (Int.mul_ne_zero (q_ne x) (q_ne y)) ((h.1.mul g.2).add ((g.1.mul h.2).mono (by omega))) ((h.2.mul g.2).mono (by omega))
theorem FB.ofInt {i : Int} (h : Bd n i) (l : 64 ≤ n) : FB n (i : Rat) := ⟨h, (Bd.small (i := 1) (by decide) (by decide)).mono l⟩
theorem bd_quot {b g : Int} (hb : Bd n b) (d : g ∣ b) (g0 : g ≠ 0) : Bd n (b.fdiv g) := by
  refine hb.of_le ?_
  have e := fd_mul d
  have q := natAbs_le_mul (x := b.fdiv g) g0
  rw [e] at q
  exact q
theorem bd_gcdR {a b : Int} (h : b ≠ 0) (hb : Bd n b) : Bd n ((Int.gcd a b : Nat) : Int) := by
  refine hb.of_le ?_
  have hd : Int.gcd a b ∣ b.natAbs := Nat.gcd_dvd_right _ _
  have := Nat.le_of_dvd (by omega) hd
  omega
end
theorem But.fresh {b : Addr} {H H' : Hp} (h : H b = none) (s : But b H H') : Same H H' := fun a o e => s a o (ne_of_none e h) e
theorem atI_mem (ns : List Int) (d : Int) (lo : 0 ≤ d) (hi : d < (ns.length : Int)) : ∃ v, atI (ns.map V.int) d = some (.int v) ∧ v ∈ ns := by
  have hk : d.toNat < ns.length := by omega
  have ek : d = ((d.toNat : Nat) : Int) := by omega
  have z : atI (ns.map V.int) ((d.toNat : Nat) : Int) = some (.int ns[d.toNat]) := atI_nat (by rw [List.getElem?_map, List.getElem?_eq_getElem hk] <;> rfl)
  rw [← ek] at z
  exact ⟨_, z, List.getElem_mem hk⟩
theorem Scr.same {K : PySem.W.Frag} {H H' : Hp} {a : Addr} (h : Scr K H a) (s : Same H H') : Scr K H' a := by
  obtain ⟨ns, x, y⟩ := h
  exact ⟨ns, s.seq x, y⟩
theorem Fn.imp {P : Program} {w : World} {K : PySem.W.Frag} {mg : Str → Option Value} {base : Heap} {k : Nat} {x : Str} {ps : List Str} {sp sp' : Sp} (F : Fn P w K mg base k x ps sp) (h : ∀ vs H Q E, sp' vs H Q E → sp vs H Q E) : Fn P w K mg base k x ps sp' := by
  obtain ⟨f, fd, g, r⟩ := F.ex
  exact ⟨f, fd, g.imp h, r⟩
theorem if_not {c : Prop} [Decidable c] {A B : Prop} (h1 : ¬ c → A) (h2 : c → B) : if (!decide c) = true then A else B := by
  by_cases e : c
  · rw [decide_eq_true e]; exact iteF (h2 e)
  · rw [decide_eq_false e]; exact iteT (h1 e)
section
variable {X : Cx}
def rAl (K : PySem.W.Frag) (r : Bool) : V → V → Hp → VK → Prop := fun x y H Q => ∃ d, Dp K H x d ∧ Dp K H y d ∧ d.canLay0 = true ∧ Nat.ble d.depth 60 = true ∧ Q (.bl r) H
theorem op_neA {K : PySem.W.Frag} (hK : X.K = K) (hu : X.A.units + 100 < cLine) : OpR X (compareOp .NotEq) (rAl K false) := by
  intro pins s σ H x y v u Q I rx ry h
  obtain ⟨d, hx, hy, c, dep, q⟩ := h
  refine op_neD hK hu pins s σ H x y v u Q I rx ry ⟨d, d, hx, hy, c, c, ?_, ?_⟩
  · have := Nat.le_of_ble_eq_true dep
    omega
  · rw [SeqAt.eqv_refl d c]
    exact q
def IsTup2 (K : PySem.W.Frag) (H : Hp) (x c : V) (b : Bool) : Prop := IsI K H x c b ∨ ∃ a xs, x = .ref a ∧ SqT K H a xs ∧ PySem.W.kitOne K (.type "tuple") (valC c) = some b
theorem call_isiTup {K : PySem.W.Frag} (hK : X.K = K) : CallR X (.builtin "isinstance") (fun xs H Q => ∃ x c b, xs = [x, c] ∧ ((∃ T, c = .ty T) ∨ ∃ C, c = .ref C) ∧ IsTup2 K H x c b ∧ Q (.bl b) H) := by
  subst hK
  intro pins s σ H xs us Q I r h
  obtain ⟨x, c, b, e0, hc, hi, q⟩ := h
  rcases hi with hi | ⟨a, ys, rfl, ha, e⟩
  · exact call_isinst pins s σ H xs us Q I r ⟨x, c, b, e0, hc, hi, q⟩
  subst e0
  obtain ⟨u, w', rfl, rx, rc⟩ := vals2 r
  have ec : w' = valC c := by
    rcases hc with ⟨T, rfl⟩ | ⟨C, rfl⟩
    · exact rc
    · exact rc
  subst ec
  cases (show u = Value.ref a from rx)
  obtain ⟨its, _, ⟨o, h1, h2, _⟩, _⟩ := I.tuple ha
  exact PySem.W.kia_one PySem.W.kitx_tuple I.kIn ⟨o, h1, h2⟩ e (fun z => nomatch z) fun tk => ⟨.bl b, H, I.tok _, rfl, q⟩
end
end Kw
set_option Elab.async false
set_option linter.all false
set_option maxRecDepth 100000
set_option maxHeartbeats 4000000
namespace Kw
open PySem PySem.Spec PyProof.Rows L2
section
variable {X : Cx}
def rBits : V → List V → Hp → VK → Prop := fun x vs H Q => ∃ i : Int, x = .int i ∧ vs = [] ∧ Q (.int ((Builtin.Int.intBits i : Nat) : Int)) H
theorem mt_bits : MtR X "int.bit_length" rBits := by
  intro pins s σ H x vs v us Q I rx rv h
  obtain ⟨i, rfl, rfl, q⟩ := h
  obtain ⟨t, rfl⟩ := rx
  cases rv
  exact call_gives PySem.F.slot_int_bit_length (typeIs_int s i t) PySem.F.entry_int_bit_length (PySem.F.args_int_bit_length_1 _) (PySem.AutoIntG2.int_bit_length_int_0 i t) ⟨.int ((Builtin.Int.intBits i : Nat) : Int), H, I.tok _, ⟨_, rfl⟩, q⟩
end
def spGcdB : Sp := fun vs H Q _ => ∃ a b : Int, vs = [.int a, .int b] ∧ Bd 4000 b ∧ Q (.int ((Int.gcd a b : Nat) : Int)) H
theorem short_min {a b : Int} (h : Bd 4000 b) : ¬ (((Builtin.Int.intBits (if (if b < 0 then -b else b) < (if a < 0 then -a else a) then (if b < 0 then -b else b) else (if a < 0 then -a else a)) : Nat) : Int) > 4000) := by
  have l : Bd 4000 (if (if b < 0 then -b else b) < (if a < 0 then -a else a) then (if b < 0 then -b else b) else (if a < 0 then -a else a)) := by
    refine h.of_le ?_
    split <;> split <;> (try split) <;> omega
  have := l.bits
  omega
end Kw
set_option Elab.async false
set_option linter.all false
set_option maxRecDepth 100000
set_option maxHeartbeats 4000000
namespace Kw
open PySem PySem.Spec PyProof.Rows L2
end Kw
namespace Kw
open PySem PySem.Spec PyProof.Rows L2
theorem cap_two {X : Cx} {scope : Scope} {cl : List (Str × Addr)} {y y' : Str} {j j' : Nat} {c c' : Addr} (h1 : X.N[j]? = some y) (h2 : X.env.kindOf y = some .cell) (h3 : X.env.cells.lookup y = some c) (h4 : cl.lookup y = some c)
    (h5 : (relabel scope X.env).names.lookup y = some .cell ∨ (relabel scope X.env).names.lookup y = some .free)
    (g1 : X.N[j']? = some y') (g2 : X.env.kindOf y' = some .cell) (g3 : X.env.cells.lookup y' = some c') (g4 : cl.lookup y' = some c')
    (g5 : (relabel scope X.env).names.lookup y' = some .cell ∨ (relabel scope X.env).names.lookup y' = some .free) : Capt X scope cl [y, y'] [j, j'] :=
  ⟨rfl, fun k z h => by
    match k with
    | 0 => cases h; exact ⟨j, c, rfl, h1, h2, h3, h4, h5⟩
    | 1 => cases h; exact ⟨j', c', rfl, g1, g2, g3, g4, g5⟩
    | k + 2 => simp at h⟩
end Kw
namespace Kw
theorem cl_two {cells : List (PySem.Str × PySem.Addr)} {y1 y2 : PySem.Str} {c1 c2 : PySem.Addr} (h1 : cells.lookup y1 = some c1) (h2 : cells.lookup y2 = some c2) : ∀ y c, List.lookup y [(y1, c1), (y2, c2)] = some c → cells.lookup y = some c := by
  intro y c e
  rw [List.lookup_cons] at e
  split at e
  · rename_i q
    have e1 : y = y1 := by simpa using q
    cases e
    rw [e1]
    exact h1
  · rw [List.lookup_cons] at e
    split at e
    · rename_i q
      have e1 : y = y2 := by simpa using q
      cases e
      rw [e1]
      exact h2
    · cases e
end Kw
set_option Elab.async false
set_option linter.all false
set_option maxRecDepth 100000
set_option maxHeartbeats 4000000
namespace Kw
open PySem PySem.Spec PyProof.Rows L2
def Al2 {β : Type} (R : V → β → Prop) : List V → List β → Prop
  | [], [] => True
  | x :: xs, b :: bs => R x b ∧ Al2 R xs bs
  | _, _ => False
section
variable {β : Type} {R R' : V → β → Prop}
theorem Al2.imp (h : ∀ x b, R x b → R' x b) : ∀ {xs : List V} {bs : List β}, Al2 R xs bs → Al2 R' xs bs
  | [], [], _ => trivial
  | _ :: _, _ :: _, z => ⟨h _ _ z.1, Al2.imp h z.2⟩
  | [], _ :: _, z => z.elim
  | _ :: _, [], z => z.elim
theorem Al2.get : ∀ {xs : List V} {bs : List β} {i : Nat} {x : V}, Al2 R xs bs → xs[i]? = some x → ∃ b, bs[i]? = some b ∧ R x b
  | [], _, _, _, _, e => by simp at e
  | _ :: _, [], _, _, z, _ => z.elim
  | _ :: _, b :: _, 0, _, z, e => by
    simp only [List.getElem?_cons_zero, Option.some.injEq] at e
    subst e
    exact ⟨b, rfl, z.1⟩
  | _ :: _, _ :: _, i + 1, _, z, e => by
    simp only [List.getElem?_cons_succ] at e
    obtain ⟨b, h1, h2⟩ := Al2.get z.2 e
    exact ⟨b, by simpa using h1, h2⟩
theorem Al2.snoc : ∀ {xs : List V} {bs : List β} {x : V} {b : β}, Al2 R xs bs → R x b → Al2 R (xs ++ [x]) (bs ++ [b])
  | [], [], _, _, _, h => ⟨h, trivial⟩
  | _ :: _, _ :: _, _, _, z, h => ⟨z.1, Al2.snoc z.2 h⟩
  | [], _ :: _, _, _, z, _ => z.elim
  | _ :: _, [], _, _, z, _ => z.elim
end
section
variable {K : PySem.W.Frag} {H H' : Hp} {n m : Nat} {x : V} {q : Rat} {b : Rat × Rat × Int}
end
section
variable {X : Cx} {K : PySem.W.Frag}
def tGlobT (K : PySem.W.Frag) (t b : Int) : TE := fun _ H Q => ∀ N, (∀ H1, SqT K H1 N [.int t, .int b]) → Q (.ref N) H
theorem pe_globT {x : Str} {t b : Int} {pos : Pos} (hK : X.K = K) (hg : Gl X x) (hm : ∃ N, X.mg x = some (.ref N) ∧ ∀ H, SqT K H N [.int t, .int b]) (hd : (x == ("__debug__" : Str)) = false := by decide) : PE X (.Name x pos) (tGlobT K t b) := by
  obtain ⟨N, hm, hN⟩ := hm
  intro pins s σ H Q I h
  exact pe_glob hg hm (v := .ref N) rfl hd pins s σ H Q I (h N hN)
theorem sqt_const {A : Addr} {o : Option Addr} {t b : Int} {k1 k2 : Tok} {n : Nat} {sl : Array (Option Value)} (h : K.lookup A = some ⟨.type "tuple", o, .seq #[.int t k1, .int b k2] n, sl⟩) : ∀ H, SqT K H A [.int t, .int b] := fun H =>
  .inr ⟨_, _, _, h, rfl, rfl, by show 2 ≤ sizeLine; decide, .cons ⟨_, rfl⟩ (.cons ⟨_, rfl⟩ .nil)⟩
end
end Kw
set_option Elab.async false
set_option linter.all false
set_option maxRecDepth 100000
set_option maxHeartbeats 4000000
namespace Kw
open PySem PySem.Spec PyProof.Rows L2
section
variable {pr : Program} {wd : World} {Ar : Around} {Er : Value → Shared → Prop}
end
section
variable {X : Cx} {pos : Pos}
end
end Kw
set_option Elab.async false
set_option linter.all false
set_option maxRecDepth 100000
set_option maxHeartbeats 4000000
namespace Kw
open PySem PySem.Spec PyProof.Rows L2
section
variable {K : PySem.W.Frag} {te : TE} {σ : L2.St} {H : Hp} {Q : VK} {idx : List Nat}
end
end Kw
set_option Elab.async false
set_option linter.all false
set_option maxRecDepth 100000
set_option maxHeartbeats 4000000
namespace Kw
open PySem PySem.Spec PyProof.Rows L2
section
variable {K : PySem.W.Frag} {H H' : Hp} {n : Nat} {x : V} {q : Rat} {b : Rat × Rat × Int} {c : Addr} {zs xs : List V} {bs : List (Rat × Rat × Int)}
theorem newB {H : Hp} {p : Addr} (o : HO) : ∃ H', upd H p o = H' ∧ But p H H' ∧ H' p = some o := ⟨_, rfl, but_upd _, upd_same⟩
end
section
end
theorem most_of (ns : List Int) (N : Int) (h : 1 ≤ N) : ∃ m : Int, (if (if N < (((ns.map V.int).length : Nat) : Int) then N else (((ns.map V.int).length : Nat) : Int)) > 1 then (if N < (((ns.map V.int).length : Nat) : Int) then N else (((ns.map V.int).length : Nat) : Int)) else 1) = m ∧ 1 ≤ m ∧ m ≤ N := by
  refine ⟨_, rfl, ?_⟩
  split
  · split <;> omega
  · omega
end Kw
set_option Elab.async false
set_option linter.all false
set_option maxRecDepth 100000
set_option maxHeartbeats 4000000
namespace Kw
open PySem PySem.Spec PyProof.Rows L2
section
variable {X : Cx} {pins : List (Addr × Obj)} {σ : L2.St} {H : Hp} {s : Shared} {N ns xs : List Str} {scope : Scope} {cl : List (Str × Addr)} {C : Addr} {fp : List Addr} {idx : List Nat}
end
section
variable {X : Cx} {elt iter tg : Expr} {ifs : List Expr} {xs : List Str} {pos : Pos} {scope : Scope} {cl : List (Str × Addr)} {wi : TI} {g : TG} {tt : TT} {te : TE} {ns : List Str} {idx : List Nat}
end
section
variable {K : PySem.W.Frag} {te : TE} {tt : TT} {g : TG} {σ : L2.St} {H : Hp} {Q : VK} {idx : List Nat} {k : Nat}
end
section
variable {X : Cx} {pos : Pos}
end
end Kw
set_option Elab.async false
set_option linter.all false
set_option maxRecDepth 100000
set_option maxHeartbeats 4000000
namespace Kw
open PySem PySem.Spec PyProof.Rows L2
end Kw
set_option Elab.async false
set_option linter.all false
set_option maxRecDepth 100000
set_option maxHeartbeats 4000000
namespace Kw
open PySem PySem.Spec PyProof.Rows L2
section
variable {prog : Program} {w : World} {A : Around} {E : Value → Shared → Prop} {h : Heap} {g : Array GenState} {d : Drawn} {t : Nat} {os : OsState} {C f : Addr} {K : PySem.W.Frag}
end
end Kw
namespace Kw
open PySem PySem.Spec PyProof.Rows L2
section
variable {prog : Program} {w : World} {A : Around} {E : Value → Shared → Prop} {h : Heap} {g : Array GenState} {d : Drawn} {t : Nat} {os : OsState} {C e : Addr} {K : PySem.W.Frag} {oe : Obj} {vs : Array Value}
end
end Kw
namespace Kw
open PySem PySem.Spec PyProof.Rows L2 PySem.Builtin PySem.Builtin.ObjectAttr
section
variable {prog : Program} {w : World} {A : Around} {R : Result → Shared → Prop} {s : Shared} {K : PySem.W.Frag} {x C : Addr} {ox : Obj} {od : Option Obj} {name : Str} {tk : Tok} {v : Value}
end
end Kw
set_option Elab.async false
set_option linter.all false
set_option maxRecDepth 100000
set_option maxHeartbeats 4000000
namespace Kw
open PySem PySem.Spec PyProof.Rows L2 PySem.Builtin PySem.Builtin.ObjectAttr
section
variable {prog : Program} {w : World} {A : Around} {R : Result → Shared → Prop} {s : Shared} {K : PySem.W.Frag} {x C : Addr} {ox : Obj} {od : Option Obj} {name : Str} {tk : Tok} {v : Value}
end
end Kw
set_option Elab.async false
set_option linter.all false
set_option maxRecDepth 100000
set_option maxHeartbeats 4000000
namespace Kw
open PySem PySem.Spec PyProof.Rows L2 PySem.Builtin PySem.Builtin.ObjectAttr
section
variable {prog : Program} {w : World} {A : Around} {E : Value → Shared → Prop} {s : Shared} {K : PySem.W.Frag} {x C : Addr} {ox : Obj} {odx : Obj} {name : Str} {v : Value}
end
end Kw
set_option Elab.async false
set_option linter.all false
set_option maxRecDepth 100000
set_option maxHeartbeats 4000000
namespace Kw
open PySem PySem.Spec PyProof.Rows L2
section
variable {P : Program} {w : World} {H : Hp} {h : Heap} {x C d : Addr} {od : Option Addr} {fs : List (Str × V)}
end
section
variable {P : Program} {w : World} {K : PySem.W.Frag} {mg : Str → Option Value} {base : Heap} {C : Addr} {qual : Str} {st : Stmt} {N ps : List Str} {k : Nat} {sp : Sp}
end
section
variable {X : Cx} {pins : List (Addr × Obj)} {σ : L2.St} {H : Hp} {s : Shared} {k k' : Nat} {f C CK : Addr} {fd : FuncData} {ps : List Str} {sp : Sp} {E : XK} {x : Str} {p pos apos : Pos} {e : Expr} {es : List Expr} {t : TA}
variable {o value : Expr} {f : Str} {pos' : Pos} {ta tv : TE}
end
end Kw
set_option Elab.async false
set_option linter.all false
set_option maxRecDepth 100000
set_option maxHeartbeats 4000000
namespace Kw
open PySem PySem.Spec PyProof.Rows L2
end Kw
set_option Elab.async false
set_option linter.all false
set_option maxRecDepth 100000
set_option maxHeartbeats 4000000
namespace Kw
open PySem PySem.Spec PyProof.Rows L2
section
variable {X : Cx} {E : XK} {e : Expr} {te : TE} {pos : Pos}
variable {o : Expr} {f : Str} {ta : TE}
end
end Kw
set_option Elab.async false
set_option linter.all false
set_option maxRecDepth 100000
set_option maxHeartbeats 4000000
namespace Kw
open PySem PySem.Spec PyProof.Rows L2
section
variable {X : Cx} {pins pins' : List (Addr × Obj)} {σ : L2.St} {H : Hp} {s : Shared} {E0 : Value → Shared → Prop}
end
section
variable {X : Cx} {pins : List (Addr × Obj)} {H : Hp} {s : Shared} {hc : Heap} {x CA : Addr} {od : Option Addr}
end
section
variable {X : Cx} {pins : List (Addr × Obj)} {σ : L2.St} {H : Hp} {s : Shared}
end
section
variable {X : Cx} {j : Nat} {n xK : Str} {CK : Addr} {ts : TS} {b₀ : Stmt} {suite : List Stmt} {kp hpos pos : Pos} {rest : List ExceptHandler} {tr : Ends → Addr → Option Addr → Hp → Prop}
variable {body : List Stmt} {tb : XK → TS} {th : Ends → Addr → Option Addr → Hp → Prop} {h₀ : ExceptHandler} {hs : List ExceptHandler}
end
end Kw
set_option Elab.async false
set_option linter.all false
set_option maxRecDepth 100000
set_option maxHeartbeats 4000000
namespace Kw
open PySem PySem.Spec PyProof.Rows L2
section
variable {X : Cx}
def rEqNil (K : PySem.W.Frag) : V → V → Hp → VK → Prop := fun x y H Q => ∃ a b xs, x = .ref a ∧ y = .ref b ∧ SqL K H a xs ∧ SqL K H b [] ∧ Q (.bl xs.isEmpty) H
theorem op_eqNil {K : PySem.W.Frag} (hK : X.K = K) (hu : X.A.units + 100 < cLine) : OpR X (compareOp .Eq) (rEqNil K) := by
  subst hK
  intro pins s σ H x y v u Q I rx ry h
  obtain ⟨a, b, xs, rfl, rfl, ha, hb, q⟩ := h
  cases xs with
  | nil => exact op_eqD rfl hu pins s σ H _ _ v u Q I rx ry ⟨.list [], .list [], .lst ha .nil, .lst hb .nil, rfl, rfl, by decide, q⟩
  | cons z zs =>
    cases (show v = Value.ref a from rx)
    cases (show u = Value.ref b from ry)
    obtain ⟨its, r, pl, hz⟩ := I.list ha
    obtain ⟨its2, r2, pl2, hz2⟩ := I.list hb
    have l1 := r.length
    have l2 := r2.length
    have w' := SeqAt.RcAt.lists_lengths pl.isList pl2.isList (by simp at l1 l2 ⊢; omega) (show X.A.units < cLine by omega)
    exact w' X.prog X.w X.xe _ ⟨.bl false, H, I, rfl, q⟩
end
section
variable {K : PySem.W.Frag} {idx : List Nat} {tt : TT} {te : TE} {σ : L2.St} {H : Hp} {Q : VK}
end
end Kw
set_option Elab.async false
set_option linter.all false
set_option maxRecDepth 100000
set_option maxHeartbeats 4000000
namespace Kw
open PySem PySem.Spec PyProof.Rows L2
section
variable {K : PySem.W.Frag} {te : TE} {tt : TT} {σ : L2.St} {H : Hp} {Q : VK} {idx : List Nat} {n : Nat}
end
section
variable {K : PySem.W.Frag} {H : Hp} {m n : Nat} {x : V} {b : Bod}
end
end Kw
set_option maxRecDepth 100000
set_option linter.all false
namespace Kw
end Kw
namespace Kw
end Kw
set_option Elab.async false
set_option linter.all false
set_option maxRecDepth 100000
set_option maxHeartbeats 4000000
namespace Kw
open PySem PySem.Spec PyProof.Rows L2
end Kw
namespace Kw
open PySem PySem.Spec PyProof.Rows L2
end Kw
namespace Kw
open PySem PySem.Spec PyProof.Rows L2
theorem atI_neg {xs : List V} {k : Nat} {x : V} (h1 : 1 ≤ k) (h2 : k ≤ xs.length) (e : xs[xs.length - k]? = some x) : atI xs (-(k : Int)) = some x := by
  have z : ixN xs.length (-(k : Int)) = some (xs.length - k) := by
    unfold ixN
    rw [if_neg (by omega), if_pos (by omega)]
    congr 1
    omega
  unfold atI
  rw [z]
  exact e
end Kw
set_option Elab.async false
set_option linter.all false
set_option maxRecDepth 100000
set_option maxHeartbeats 4000000
namespace Kw
open PySem PySem.Spec PyProof.Rows L2
theorem noFill_tup_mul : fillsNumberSlot (.type "tuple") "mul" = pure false :=
  PySem.fillsNumberSlot_seq (id := "tuple.__mul__") (r := some (.builtin "tuple.__rmul__")) F.slot_tuple_mul.lookup (by decide +kernel) F.slot_tuple_rmul.lookup (by decide +kernel)
theorem repeat_tup : seqRepeat? (.type "tuple") = pure (some (.builtin "tuple.__mul__")) := by
  unfold seqRepeat?
  rw [PySem.seqSlot_of (T := "tuple") (name := "__mul__") (id := "tuple.__mul__") F.slot_tuple_mul.lookup (by decide +kernel), PySem.seqSlot_of (T := "tuple") (name := "__rmul__") (id := "tuple.__rmul__") F.slot_tuple_rmul.lookup (by decide +kernel)]
  rfl
theorem rmul_tup (a : Int) (t : Tok) (l : Addr) (items : Array Value) (n : Nat) (dd : Option Addr) (sl : Array (Option Value)) :
    Meets (Builtin.«int.__rmul__» ⟨[.int a t, .ref l], []⟩) (fun _ R s => s.heap.get? l = some { cls := .type "tuple", dict := dd, data := .seq items n, slots := sl } ∧ R (.ok (.ret Value.notImplemented)) s) :=
  .of_wp fun prog w A R s h => by obtain ⟨hp, g, d, tk, os⟩ := s; obtain ⟨hl, h⟩ := h; wp_walk; exact ⟨_, rfl, h⟩
theorem rep_one (x : Value) (k : Nat) : (List.replicate k #[x]).foldl (fun x1 x2 => x1 ++ x2) #[] = (List.replicate k x).toArray := by
  have f0 : ∀ (m : Nat) (a : List Value), (List.replicate m #[x]).foldl (fun x1 x2 => x1 ++ x2) a.toArray = (a ++ List.replicate m x).toArray := fun m => by
    induction m with
    | zero => intro a; simp
    | succ m ih =>
      intro a
      rw [List.replicate_succ, List.foldl_cons]
      have e : a.toArray ++ #[x] = (a ++ [x]).toArray := by simp
      rw [e, ih, List.replicate_succ]
      simp
  exact (f0 k []).trans (by simp)
theorem tup_mul (l : Addr) (x : Value) (n : Nat) (dd : Option Addr) (sl : Array (Option Value)) (k : Int) (u : Tok) (h1 : 1 < k) (h2 : k ≤ 100) :
    Meets (Builtin.«tuple.__mul__» ⟨[.ref l, .int k u], []⟩) (fun _ R s => s.heap.get? l = some { cls := .type "tuple", dict := dd, data := .seq #[x] n, slots := sl } ∧ R (.ok (.ret (Value.ref s.heap.objs.size))) { s with heap := s.heap.push { cls := Value.type "tuple", data := Data.seq ((List.replicate k.toNat #[x]).foldl (· ++ ·) #[]) }, toks := s.toks }) :=
  .of_wp fun prog w A R s h => by
    obtain ⟨hp, g, d, tk, os⟩ := s; obtain ⟨hl, h⟩ := h
    have f1 := AutoSeq1.idx_int
    have ee : (List.replicate k.toNat #[x]).foldl (fun x1 x2 => x1 ++ x2) #[] = (List.replicate k.toNat x).toArray := rep_one x k.toNat
    have c6 : ¬ (((List.replicate k.toNat #[x]).foldl (fun x1 x2 => x1 ++ x2) #[]).size > sizeLine) := by
      rw [ee, sizeLine_eq]
      simp
      omega
    have c1 : ¬ ((decide (k < -(2 ^ 63)) || decide (k ≥ 2 ^ 63)) = true) := by simp; omega
    have c2 : ¬ (((#[x] : Array Value).isEmpty || k == 1) = true) := by simp; omega
    have c3 : ¬ ((decide (k ≤ 0) || (#[x] : Array Value).isEmpty) = true) := by simp; omega
    have c4 : ¬ (((((#[x] : Array Value).size : Nat) : Int) * k) > (2 ^ 63 - 1) / 8) := by simp; omega
    have c5 : ¬ (Builtin.Tuple.tupleTooMany ((((#[x] : Array Value).size : Nat) : Int) * k) = true) := by
      unfold Builtin.Tuple.tupleTooMany
      rw [sizeLine_eq]
      simp
      omega
    wp_walk
    rw [if_neg c1]
    wp_walk using wpAny_loadPart' hl
    try rw [if_neg c2]
    wp_walk using wpAny_loadPart' hl
    try rw [if_neg c3]
    wp_walk
    try rw [if_neg c4]
    wp_walk
    try rw [if_neg c5]
    wp_walk
    rw [if_neg c6]
    wp_walk
    exact ⟨_, rfl, h⟩
section
variable {X : Cx}
def rRepT : R2 := fun x y H Q => ∃ l k v, x = .ref l ∧ y = .int k ∧ H l = some (.tup [v]) ∧ 1 < k ∧ k ≤ 100 ∧ ∀ p, H p = none → Q (.ref p) (upd H p (.tup (List.replicate k.toNat v)))
theorem vals_rep {v : V} {u : Value} (r : RelV v u) (k : Nat) : Vals (List.replicate k v) (List.replicate k u) := by
  induction k with
  | zero => exact .nil
  | succ k ih => exact .cons r ih
theorem op_repT : OpR X (binaryOp .Mult) rRepT := by
  intro pins s σ H x y v u Q I rx ry h
  obtain ⟨l, k, z, rfl, rfl, hH, h1, h2, q⟩ := h
  cases rx
  obtain ⟨t, rfl⟩ := ry
  obtain ⟨its, r, ht, hz⟩ := I.tuple (SqT.of (K := X.K) hH)
  obtain ⟨u, rfl, ru⟩ := vals1 r
  obtain ⟨⟨cls, dd, data, sl⟩, ho, hc, n, hd⟩ := id ht
  simp only at hc hd
  subst hc hd
  refine wpAny_binaryOp_repeat_ref (T := "tuple") (U := "int") (by decide) ⟨_, ho, rfl⟩ (fun s' => typeIs_int s' k t) noFill_tup_mul F.fills_int_mul F.slot_int_rmul repeat_tup F.slot_int_index.lookup
    (call_meets F.slot_int_rmul (typeIs_int s k t) F.entry_int_rmul (F.args_int_rmul_2 _ _) (rmul_tup k t l _ n dd sl)
      ⟨ho, rfl, ⟨_, ho, rfl⟩, call_meets F.slot_tuple_mul ⟨_, ho, rfl⟩ F.entry_tuple_mul (F.args_tuple_mul_2 _ _) (tup_mul l u n dd sl k t h1 h2) ⟨ho, ?_⟩⟩)
  rw [rep_one]
  refine ⟨.ref s.heap.objs.size, _, I.laid (t' := s.toks) (o := .tup (List.replicate k.toNat z)) (fun b ob q => Heap.get?_push_of_some _ q) (Nat.le_refl _) ?_, rfl, q _ (I.hok.fresh (Nat.le_refl _))⟩
  exact ⟨by rw [List.length_replicate, sizeLine_eq]; omega, _, vals_rep ru k.toNat, IsTup.new _ _⟩
def rCatA (K : PySem.W.Frag) : R2 := fun x y H Q => ∃ a b xs ys, x = .ref a ∧ y = .ref b ∧ SqT K H a xs ∧ SqT K H b ys ∧ xs.length + ys.length ≤ sizeLine ∧
  (xs = [] → Q (.ref b) H) ∧ (xs ≠ [] → ys = [] → Q (.ref a) H) ∧ (xs ≠ [] → ys ≠ [] → ∀ p, H p = none → Q (.ref p) (upd H p (.tup (xs ++ ys))))
theorem op_catA : OpR X (binaryOp .Add) (rCatA X.K) := by
  intro pins s σ H x y v u Q I rx ry h
  obtain ⟨a, b, xs, ys, rfl, rfl, ha, hb, hz, q0, q1, q2⟩ := h
  by_cases hx : xs = []
  · subst hx
    cases rx
    cases ry
    obtain ⟨its, r1, p1, _⟩ := I.tuple ha
    obtain ⟨its2, r2, p2, _⟩ := I.tuple hb
    cases r1
    obtain ⟨⟨cls, dd, data, sl⟩, ho, hc, n, hd⟩ := id p1
    obtain ⟨⟨cls2, dd2, data2, sl2⟩, ho2, hc2, n2, hd2⟩ := id p2
    simp only at hc hd hc2 hd2
    subst hc hd hc2 hd2
    exact concat_meets ⟨_, ho, rfl⟩ ⟨_, ho2, rfl⟩ noFill_tuple_add seq_tuple_add PySem.F.slot_tuple_add PySem.F.entry_tuple_add (PySem.F.args_tuple_add_2 _ _)
      (tuple_addW0 a b #[] its2.toArray n n2 dd dd2 sl sl2 (by simp)) ⟨ho, ho2, ⟨.ref b, H, I, rfl, q0 rfl⟩⟩
  · exact op_catT pins s σ H _ _ v u Q I rx ry ⟨a, b, xs, ys, rfl, rfl, ha, hb, hx, hz, q1 hx, q2 hx⟩
end
section
variable {K : PySem.W.Frag} {idx : List Nat} {te : TE} {σ : L2.St} {H : Hp} {Q : VK}
theorem lc_tup {a : Addr} {xs : List V} (Pv : Nat → List V → Hp → Prop) (h0 : Pv 0 [] H) (hz : xs.length ≤ sizeLine) (hy : ∀ i ys H, Pv i ys H → ys.length = i) (hl : ∀ i ys H, Pv i ys H → SqT K H a xs)
    (hs : ∀ i x ys H (Q' : VK), xs[i]? = some x → Pv i ys H → (∀ v H2, Pv (i + 1) (ys ++ [v]) H2 → Q' v H2) → te (stIn (some x) idx σ) H Q') (hd : ∀ ys H, Pv xs.length ys H → ∀ p, H p = none → Q (.ref p) (upd H p (.lst ys))) :
    LcBody (Itt K a) idx te σ Q H := by
  refine ⟨fun i m ys H => m = xs.length - i ∧ i ≤ xs.length ∧ Pv i ys H, ⟨xs.length, by simp, Nat.zero_le _, h0⟩, ?_⟩
  rintro i m ys H ⟨rfl, hi, p⟩
  have q := hl i ys H p
  refine ⟨by rw [hy i ys H p]; omega, ?_⟩
  by_cases hlt : i < xs.length
  · refine .inr ⟨⟨xs, xs[i], q, by simp [hlt]⟩, fun y H' yl => ?_⟩
    obtain ⟨e, yl⟩ := yl
    subst e
    exact hs i y ys _ _ (yl xs q) p fun v H2 z => ⟨xs.length - (i + 1), by omega, rfl, hlt, z⟩
  · have e : i = xs.length := by omega
    subst e
    exact .inl ⟨⟨xs, q, Nat.le_refl _⟩, hd ys H p⟩
end
end Kw
set_option Elab.async false
set_option linter.all false
set_option maxRecDepth 100000
set_option maxHeartbeats 4000000
namespace Kw
open PySem PySem.Spec PyProof.Rows L2
def FH (H : Hp) (p : Addr) (x : Rat) : Prop := H p = some (.tup [.int x.num, .int ((x.den : Nat) : Int)])
section
variable {K : PySem.W.Frag} {H H' : Hp} {p b c : Addr} {x y : Rat} {v : V} {ys : List V}
theorem FH.fq (h : FH H p x) : FQ K H p x := SqT.of h
theorem FH.same (s : Same H H') (h : FH H p x) : FH H' p x := s _ _ h
theorem FH.but (s : But c H H') (hc : H c = some (.lst ys)) (h : FH H p x) : FH H' p x := s _ _ (ne_of h hc (by intro z; cases z)) h
theorem FH.fit {t u : Int} (h : u ≠ 0) (e : H p = some (.tup [.int (fT t u), .int (fB t u)])) : FH H p (Rat.divInt t u) := by
  obtain ⟨e1, e2⟩ := q_fit (t := t) h
  rw [e1, e2] at e
  exact e
theorem FH.ofInt {i : Int} (h : H p = some (.tup [.int i, .int 1])) : FH H p (i : Rat) := h
theorem th_tup {xs : List V} (hb : H b = some (.lst ys)) (e : H p = some (.tup xs)) (h : ∀ x ∈ xs, Th b H x) : Th b H (.ref p) := .tup (ne_of e hb (by intro z; cases z)) e h
theorem th_nil : ∀ x ∈ ([] : List V), Th b H x := fun _ h => nomatch h
theorem th_cons {a : V} {xs : List V} (h : Th b H a) (r : ∀ x ∈ xs, Th b H x) : ∀ x ∈ a :: xs, Th b H x := fun x hx => by
  rcases List.mem_cons.mp hx with rfl | hx
  · exact h
  · exact r x hx
theorem th_app {xs zs : List V} (h : ∀ x ∈ xs, Th b H x) (r : ∀ x ∈ zs, Th b H x) : ∀ x ∈ xs ++ zs, Th b H x := fun x hx => by
  rcases List.mem_append.mp hx with hx | hx
  · exact h x hx
  · exact r x hx
theorem th_sml {i : Int} (h1 : -(2 ^ 64) < i) (h2 : i < 2 ^ 64) : Th b H (.int i) := .int ((Bd.small h1 h2).mono (by decide))
theorem th_cut {xs : List V} {lo hi : Option Int} (h : ∀ x ∈ xs, Th b H x) : ∀ x ∈ cutV xs lo hi, Th b H x := fun x hx => h x (List.mem_of_mem_drop (List.mem_of_mem_take hx))
theorem th_all {xs : List V} (h : ∀ x ∈ xs, Th b H x) (s : But b H H') : ∀ x ∈ xs, Th b H' x := fun x hx => (h x hx).but s
theorem th_allS {xs : List V} (h : ∀ x ∈ xs, Th b H x) (s : Same H H') : ∀ x ∈ xs, Th b H' x := fun x hx => (h x hx).same s
theorem th_rep {k : Nat} (h : Th b H v) : ∀ x ∈ List.replicate k v, Th b H x := fun x hx => by
  rw [(List.mem_replicate.mp hx).2]
  exact h
theorem cut_lt {n : Nat} {i : Int} (h : 0 ≤ i) (l : i < (n : Int)) : ¬ (HT.sIx n 0 none = 0 ∧ HT.sIx n n (some i) = n) := fun ⟨_, z⟩ => by
  rw [show i = ((i.toNat : Nat) : Int) by omega, HT.sIx_nat] at z
  omega
theorem cut_gt {n : Nat} {i : Int} (h : 0 < i) (l : 0 < n) : ¬ (HT.sIx n 0 (some i) = 0 ∧ HT.sIx n n none = n) := fun ⟨z, _⟩ => by
  rw [show i = ((i.toNat : Nat) : Int) by omega, HT.sIx_nat] at z
  omega
theorem FH.th (h : FH H p x) (d : FB 3000 x) (hb : H b = some (.lst ys)) : Th b H (.ref p) := th_tup hb h (th_cons (.int d.1) (th_cons (.int d.2) th_nil))
def TopC (K : PySem.W.Frag) (H : Hp) (x : V) (c d : Bool) : Prop :=
  FracC K H x c ∧ (c = true → ∃ p i j, x = .ref p ∧ H p = some (.tup [.int i, .int j]) ∧ Bd 3000 i ∧ Bd 3000 j ∧ 1 ≤ j ∧ Int.gcd i j = 1 ∧ d = decide (0 < i))
theorem TopC.same {x : V} {c d : Bool} (h : TopC K H x c d) (s : Same H H') : TopC K H' x c d :=
  ⟨h.1.same s, fun z => by
    obtain ⟨p, i, j, a, e, r⟩ := h.2 z
    exact ⟨p, i, j, a, s _ _ e, r⟩⟩
theorem FracC.top {x : V} {c : Bool} (h : FracC K H x c) : ∃ d, TopC K H x c d := by
  cases c with
  | false => exact ⟨false, h, fun z => nomatch z⟩
  | true =>
    rcases id h with ⟨z, _⟩ | ⟨z, _⟩ | ⟨z, _⟩ | ⟨q, i, j, rfl, dq, b1, b2, z⟩
    · cases z
    · cases z
    · cases z
    · have hj : 1 ≤ j := by
        by_cases k : 1 ≤ j
        · exact k
        · rw [decide_eq_false k] at z; cases z
      rw [decide_eq_true hj, Bool.true_and] at z
      have g : ((Int.gcd i j : Nat) : Int) = 1 := of_decide_eq_true z.symm
      exact ⟨_, h, fun _ => ⟨q, i, j, rfl, dq, b1, b2, hj, by omega, rfl⟩⟩
def BoxC (K : PySem.W.Frag) (H : Hp) (x : V) (c : Bool) : Prop :=
  (c = false ∧ ∃ t, TyOf K H x t ∧ PySem.W.kitOne K t (.type "tuple") = some false) ∨ (c = false ∧ ∃ p xs, x = .ref p ∧ H p = some (.tup xs) ∧ xs.length ≠ 7) ∨
  ∃ p v0 v1 v2 v3 v4 v5 v6 c0 c1 c2 c3 c4 c5 c6 d2 d3, x = .ref p ∧ H p = some (.tup [v0, v1, v2, v3, v4, v5, v6]) ∧ FracC K H v0 c0 ∧ FracC K H v1 c1 ∧ TopC K H v2 c2 d2 ∧ TopC K H v3 c3 d3 ∧ FracC K H v4 c4 ∧ FracC K H v5 c5 ∧ WtC K H v6 c6 ∧
    c = ([c0, c1, c4, c5].all id && ((c2 && d2) && ((c3 && d3) && c6)))
theorem BoxC.same {x : V} {c : Bool} (h : BoxC K H x c) (s : Same H H') : BoxC K H' x c := by
  rcases h with ⟨e, t, a, d⟩ | ⟨e, p, xs, a, d, f⟩ | ⟨p, v0, v1, v2, v3, v4, v5, v6, c0, c1, c2, c3, c4, c5, c6, d2, d3, a, d, f0, f1, f2, f3, f4, f5, f6, e⟩
  · exact .inl ⟨e, t, TyOf.same a s, d⟩
  · exact .inr (.inl ⟨e, p, xs, a, s _ _ d, f⟩)
  · exact .inr (.inr ⟨p, v0, v1, v2, v3, v4, v5, v6, c0, c1, c2, c3, c4, c5, c6, d2, d3, a, s _ _ d, f0.same s, f1.same s, f2.same s, f3.same s, f4.same s, f5.same s, f6.same s, e⟩)
theorem seven {xs : List V} (h : xs.length = 7) : ∃ v0 v1 v2 v3 v4 v5 v6, xs = [v0, v1, v2, v3, v4, v5, v6] := by
  match xs, h with
  | [v0, v1, v2, v3, v4, v5, v6], _ => exact ⟨_, _, _, _, _, _, _, rfl⟩
theorem two_of {xs : List V} (h : xs.length = 2) : ∃ v0 v1, xs = [v0, v1] := by
  match xs, h with
  | [v0, v1], _ => exact ⟨_, _, rfl⟩
theorem Th.box (h : Th b H v) : ∃ c, BoxC K H v c := by
  rcases h.tupOr (K := K) with h | ⟨p, xs, rfl, e, hx⟩
  · exact ⟨false, .inl ⟨rfl, h⟩⟩
  by_cases l : xs.length = 7
  · obtain ⟨v0, v1, v2, v3, v4, v5, v6, rfl⟩ := seven l
    obtain ⟨c0, h0⟩ := (hx v0 (by simp)).frac (K := K)
    obtain ⟨c1, h1⟩ := (hx v1 (by simp)).frac (K := K)
    obtain ⟨c2, h2⟩ := (hx v2 (by simp)).frac (K := K)
    obtain ⟨c3, h3⟩ := (hx v3 (by simp)).frac (K := K)
    obtain ⟨c4, h4⟩ := (hx v4 (by simp)).frac (K := K)
    obtain ⟨c5, h5⟩ := (hx v5 (by simp)).frac (K := K)
    obtain ⟨c6, h6⟩ := (hx v6 (by simp)).wt (K := K)
    obtain ⟨d2, k2⟩ := h2.top
    obtain ⟨d3, k3⟩ := h3.top
    exact ⟨_, .inr (.inr ⟨p, v0, v1, v2, v3, v4, v5, v6, c0, c1, c2, c3, c4, c5, c6, d2, d3, rfl, e, h0, h1, k2, k3, h4, h5, h6, rfl⟩)⟩
  · exact ⟨false, .inr (.inl ⟨rfl, p, _, rfl, e, l⟩)⟩
def RoomC (K : PySem.W.Frag) (H : Hp) (x : V) (c : Bool) : Prop :=
  (c = false ∧ ∃ t, TyOf K H x t ∧ PySem.W.kitOne K t (.type "tuple") = some false) ∨ (c = false ∧ ∃ p xs, x = .ref p ∧ H p = some (.tup xs) ∧ xs.length ≠ 2) ∨
  ∃ p v0 v1 c0 c1 d0 d1, x = .ref p ∧ H p = some (.tup [v0, v1]) ∧ TopC K H v0 c0 d0 ∧ TopC K H v1 c1 d1 ∧ c = ((c0 && d0) && (c1 && d1))
theorem RoomC.same {x : V} {c : Bool} (h : RoomC K H x c) (s : Same H H') : RoomC K H' x c := by
  rcases h with ⟨e, t, a, d⟩ | ⟨e, p, xs, a, d, f⟩ | ⟨p, v0, v1, c0, c1, d0, d1, a, d, f0, f1, e⟩
  · exact .inl ⟨e, t, TyOf.same a s, d⟩
  · exact .inr (.inl ⟨e, p, xs, a, s _ _ d, f⟩)
  · exact .inr (.inr ⟨p, v0, v1, c0, c1, d0, d1, a, s _ _ d, f0.same s, f1.same s, e⟩)
theorem Th.room (h : Th b H v) : ∃ c, RoomC K H v c := by
  rcases h.tupOr (K := K) with h | ⟨p, xs, rfl, e, hx⟩
  · exact ⟨false, .inl ⟨rfl, h⟩⟩
  by_cases l : xs.length = 2
  · obtain ⟨v0, v1, rfl⟩ := two_of l
    obtain ⟨c0, h0⟩ := (hx v0 (by simp)).frac (K := K)
    obtain ⟨c1, h1⟩ := (hx v1 (by simp)).frac (K := K)
    obtain ⟨d0, k0⟩ := h0.top
    obtain ⟨d1, k1⟩ := h1.top
    exact ⟨_, .inr (.inr ⟨p, v0, v1, c0, c1, d0, d1, rfl, e, k0, k1, rfl⟩)⟩
  · exact ⟨false, .inr (.inl ⟨rfl, p, _, rfl, e, l⟩)⟩
end
section
variable {X : Cx}
def rCatB : R2 := fun x y H Q => ∃ a b xs ys, x = .ref a ∧ y = .ref b ∧ H a = some (.tup xs) ∧ H b = some (.tup ys) ∧ xs.length + ys.length ≤ 1000 ∧ ∀ p H', Same H H' → H' p = some (.tup (xs ++ ys)) → Q (.ref p) H'
theorem op_catB : OpR X (binaryOp .Add) rCatB := by
  intro pins s σ H x y v u Q I rx ry h
  obtain ⟨a, b, xs, ys, rfl, rfl, ha, hb, hz, q⟩ := h
  refine op_catA pins s σ H _ _ v u Q I rx ry ⟨a, b, xs, ys, rfl, rfl, SqT.of ha, SqT.of hb, by rw [sizeLine_eq]; omega, fun e => ?_, fun _ e => ?_, fun _ _ p hp => ?_⟩
  · subst e
    exact q b H (Same.refl H) hb
  · subst e
    exact q a H (Same.refl H) (by rw [List.append_nil]; exact ha)
  · exact q p _ (same_new hp _) upd_same
end
structure Bx where
  x : Rat
  y : Rat
  w : Rat
  h : Rat
  u : Rat
  v : Rat
  m : Int
def BxH (H : Hp) (z : V) (k : Bx) : Prop := ∃ p a0 a1 a2 a3 a4 a5, z = .ref p ∧ H p = some (.tup [.ref a0, .ref a1, .ref a2, .ref a3, .ref a4, .ref a5, .int k.m]) ∧
  (FH H a0 k.x ∧ FH H a1 k.y ∧ FH H a2 k.w ∧ FH H a3 k.h ∧ FH H a4 k.u ∧ FH H a5 k.v) ∧ (FB 500 k.x ∧ FB 500 k.y ∧ FB 500 k.w ∧ FB 500 k.h ∧ FB 500 k.u ∧ FB 500 k.v) ∧ 0 < k.w ∧ 0 < k.h ∧ Bd 64 k.m
def BxS (K : PySem.W.Frag) (H : Hp) (z : V) (k : Bx) : Prop := ∃ p a0 a1 a2 a3 v4 v5 v6, z = .ref p ∧ SqT K H p [.ref a0, .ref a1, .ref a2, .ref a3, v4, v5, v6] ∧
  (FQ K H a0 k.x ∧ FQ K H a1 k.y ∧ FQ K H a2 k.w ∧ FQ K H a3 k.h) ∧ (FB 1200 k.x ∧ FB 1200 k.y ∧ FB 1200 k.w ∧ FB 1200 k.h) ∧ 0 < k.w ∧ 0 < k.h
section
variable {K : PySem.W.Frag} {H H' : Hp} {b c : Addr} {z : V} {k l : Bx} {ys : List V}
theorem BxH.but (h : BxH H z k) (s : But c H H') (hc : H c = some (.lst ys)) : BxH H' z k := by
  obtain ⟨p, a0, a1, a2, a3, a4, a5, e, hp, ⟨h0, h1, h2, h3, h4, h5⟩, r⟩ := h
  exact ⟨p, a0, a1, a2, a3, a4, a5, e, s _ _ (ne_of hp hc (by intro z; cases z)) hp, ⟨h0.but s hc, h1.but s hc, h2.but s hc, h3.but s hc, h4.but s hc, h5.but s hc⟩, r⟩
theorem BxH.same (h : BxH H z k) (s : Same H H') : BxH H' z k := by
  obtain ⟨p, a0, a1, a2, a3, a4, a5, e, hp, ⟨h0, h1, h2, h3, h4, h5⟩, r⟩ := h
  exact ⟨p, a0, a1, a2, a3, a4, a5, e, s _ _ hp, ⟨h0.same s, h1.same s, h2.same s, h3.same s, h4.same s, h5.same s⟩, r⟩
theorem BxH.th (h : BxH H z k) (hb : H b = some (.lst ys)) : Th b H z := by
  obtain ⟨p, a0, a1, a2, a3, a4, a5, rfl, hp, ⟨h0, h1, h2, h3, h4, h5⟩, ⟨g0, g1, g2, g3, g4, g5⟩, _, _, bm⟩ := h
  have md : ∀ {x : Rat}, FB 500 x → FB 3000 x := fun h => h.mono (by decide)
  exact th_tup hb hp (th_cons (h0.th (md g0) hb) (th_cons (h1.th (md g1) hb) (th_cons (h2.th (md g2) hb) (th_cons (h3.th (md g3) hb) (th_cons (h4.th (md g4) hb) (th_cons (h5.th (md g5) hb) (th_cons (.int (bm.mono (by decide))) th_nil)))))))
theorem BxH.toS (h : BxH H z k) : BxS K H z k := by
  obtain ⟨p, a0, a1, a2, a3, a4, a5, e, hp, ⟨h0, h1, h2, h3, h4, h5⟩, ⟨g0, g1, g2, g3, g4, g5⟩, w0, w1, _⟩ := h
  have md : ∀ {x : Rat}, FB 500 x → FB 1200 x := fun h => h.mono (by decide)
  exact ⟨p, a0, a1, a2, a3, .ref a4, .ref a5, .int k.m, e, SqT.of hp, ⟨h0.fq, h1.fq, h2.fq, h3.fq⟩, ⟨md g0, md g1, md g2, md g3⟩, w0, w1⟩
theorem BxS.same (h : BxS K H z k) (s : Same H H') : BxS K H' z k := by
  obtain ⟨p, a0, a1, a2, a3, v4, v5, v6, e, hp, ⟨h0, h1, h2, h3⟩, r⟩ := h
  exact ⟨p, a0, a1, a2, a3, v4, v5, v6, e, Kw.Same.tup s hp, ⟨Kw.Same.tup s h0, Kw.Same.tup s h1, Kw.Same.tup s h2, Kw.Same.tup s h3⟩, r⟩
theorem BxS.but (h : BxS K H z k) (s : But c H H') (hc : H c = some (.lst ys)) : BxS K H' z k := by
  obtain ⟨p, a0, a1, a2, a3, v4, v5, v6, e, hp, ⟨h0, h1, h2, h3⟩, r⟩ := h
  exact ⟨p, a0, a1, a2, a3, v4, v5, v6, e, s.tup hc hp, ⟨s.tup hc h0, s.tup hc h1, s.tup hc h2, s.tup hc h3⟩, r⟩
def hicQ (x a y c : Rat) : Bool := decide (x < y + c) && decide (y < x + a)
def ovQ (k l : Bx) : Bool := hicQ k.x k.w l.x l.w && hicQ k.y k.h l.y l.h
theorem hic_comm (x a y c : Rat) : hicQ x a y c = hicQ y c x a := Bool.and_comm _ _
theorem ov_comm (k l : Bx) : ovQ k l = ovQ l k := by
  unfold ovQ
  rw [hic_comm k.x, hic_comm k.y]
theorem ov_self (k : Bx) (h1 : 0 < k.w) (h2 : 0 < k.h) : ovQ k k = true := by
  have e1 : k.x < k.x + k.w := by grind
  have e2 : k.y < k.y + k.h := by grind
  unfold ovQ hicQ
  rw [decide_eq_true e1, decide_eq_true e2]
  rfl
end
end Kw
namespace Kw
theorem box_all : ∀ c0 c1 c2 c3 c4 c5 d2 d3 c6 : Bool, [c0, c1, c2, c3, c4, c5].all id = false → ([c0, c1, c4, c5].all id && ((c2 && d2) && ((c3 && d3) && c6))) = false := by decide +kernel
theorem box_true : ∀ c0 c1 c2 c3 c4 c5 : Bool, [c0, c1, c2, c3, c4, c5].all id = true → c0 = true ∧ c1 = true ∧ c2 = true ∧ c3 = true ∧ c4 = true ∧ c5 = true := by decide +kernel
theorem room_all : ∀ c0 c1 d0 d1 : Bool, [c0, c1].all id = false → ((c0 && d0) && (c1 && d1)) = false := by decide +kernel
theorem room_true : ∀ c0 c1 : Bool, [c0, c1].all id = true → c0 = true ∧ c1 = true := by decide +kernel
end Kw
namespace Kw
open PySem PySem.Spec PyProof.Rows L2
theorem al_th {H : Hp} {b : Addr} {ys : List V} (hb : H b = some (.lst ys)) : ∀ {xs : List V} {ks : List Bx}, Al2 (BxH H) xs ks → ∀ x ∈ xs, Th b H x
  | [], _, _ => th_nil
  | _ :: _, [], z => z.elim
  | _ :: _, _ :: _, z => th_cons (z.1.th hb) (al_th hb z.2)
theorem FH.lit {H : Hp} {p : Addr} {t b : Int} (h : H p = some (.tup [.int t, .int b])) (e1 : 0 < b) (e2 : Int.gcd t b = 1) : FH H p (Rat.divInt t b) := by
  obtain ⟨z1, z2⟩ := q_of e1 e2
  unfold FH
  rw [z1, z2]
  exact h
def atQ (l : Bx) (x y : Rat) : Bx := ⟨x, y, l.w, l.h, l.u, l.v, l.m⟩
end Kw
namespace Kw
open PySem PySem.Spec PyProof.Rows L2
section
variable {X : Cx} {es1 es2 es3 es4 es5 es6 : List Expr} {x1 x2 x3 x4 x5 x6 : Nat} {q1 q2 q3 q4 q5 q6 q7 pos : Pos} {t1 t2 t3 t4 t5 t6 t7 : TE}
theorem pe_lst1 (h1 : PE X (.Tuple es1 x1 q1) t1) : PE X (.List [.Tuple es1 x1 q1] pos) (tLst (tCons t1 tNil)) := pe_lst (pa_cons h1 pa_nil)
theorem pe_int2 {i j : Int} {k1 k2} : PE X (.Tuple [.Constant (.int i) k1 q1, .Constant (.int j) k2 q2] x1 pos) (tTup (tCons (tC (.int i)) (tCons (tC (.int j)) tNil))) := pe_tup (pa_cons pe_int (pa_cons pe_int pa_nil))
theorem pe_tup7 {x7 : Nat} {i : Int} {k7} (h1 : PE X (.Tuple es1 x1 q1) t1) (h2 : PE X (.Tuple es2 x2 q2) t2) (h3 : PE X (.Tuple es3 x3 q3) t3) (h4 : PE X (.Tuple es4 x4 q4) t4) (h5 : PE X (.Tuple es5 x5 q5) t5) (h6 : PE X (.Tuple es6 x6 q6) t6) :
    PE X (.Tuple [.Tuple es1 x1 q1, .Tuple es2 x2 q2, .Tuple es3 x3 q3, .Tuple es4 x4 q4, .Tuple es5 x5 q5, .Tuple es6 x6 q6, .Constant (.int i) k7 q7] x7 pos) (tTup (tCons t1 (tCons t2 (tCons t3 (tCons t4 (tCons t5 (tCons t6 (tCons (tC (.int i)) tNil)))))))) :=
  pe_tup (pa_cons h1 (pa_cons h2 (pa_cons h3 (pa_cons h4 (pa_cons h5 (pa_cons h6 (pa_cons pe_int pa_nil)))))))
end
end Kw
set_option Elab.async false
set_option linter.all false
set_option maxRecDepth 100000
set_option maxHeartbeats 4000000
namespace Prf
open PySem PySem.Spec PyProof.Rows L2 Kw
def top (i : Nat) : Stmt := PySem.Challenge.pw_knockwright_k71_boxes_known.main.body.getD i (.Pass ⟨0, 0, 0, 0⟩)
structure Tx (K : PySem.W.Frag) (mg : Str → Option Value) : Prop where
  b_isinstance : mg "isinstance" = none
  b_int : mg "int" = none
  b_bool : mg "bool" = none
  b_tuple : mg "tuple" = none
  b_list : mg "list" = none
  b_abs : mg "abs" = none
  b_len : mg "len" = none
  b_divmod : mg "divmod" = none
  b_range : mg "range" = none
  b_max : mg "max" = none
  b_min : mg "min" = none
  b_all : mg "all" = none
  k_LONG_BITS : ∃ t, mg "LONG_BITS" = some (.int 4000 t)
  k_MOST_WEIGHT : ∃ t, mg "MOST_WEIGHT" = some (.int 1000 t)
  k_NOUGHT : ∃ N, mg "NOUGHT" = some (.ref N) ∧ ∀ H, SqT K H N [.int 0, .int 1]
  k_ACROSS : ∃ t, mg "ACROSS" = some (.int 0 t)
  k_ALONG : ∃ t, mg "ALONG" = some (.int 1 t)
  k_SIZES : ∃ t, mg "SIZES" = some (.int 2 t)
section
variable {P : Program} {w : World} {K : PySem.W.Frag} {mg : Str → Option Value} {base : Heap}
theorem sc_is_whole : FnScope ["thing"] ["thing"] (defScope (top 3)) := ⟨rfl, rfl, rfl, by decide +kernel, rfl, by decide +kernel, by decide +kernel⟩
theorem ok_is_whole (D : Df K mg "is_whole" (top 3) ["thing"]) (T : Tx K mg) : Fn P w K mg base 1 "is_whole" ["thing"] (spWhole K) := by
  refine D.ok0 sc_is_whole (fun vs H Q E h => ?_) (fun f cdv A outer s H vs Q E hr h => ?_)
  · obtain ⟨x, t, b1, b2, rfl, _⟩ := h
    rfl
  obtain ⟨x, t, b1, b2, rfl, ty, k1, k2, q⟩ := h
  refine ⟨_, (pss_one (ps_ret (pe_and (pe_callB call_isinst (by rfl) T.b_isinstance PyProof.Rows.Boot.«isinstance» (pa_cons (pv 0) (pa_cons (pe_bty (by rfl) T.b_int PyProof.Rows.Boot.«int») pa_nil))) (pe_one (pe_not (pe_callB call_isinst (by rfl) T.b_isinstance PyProof.Rows.Boot.«isinstance» (pa_cons (pv 0) (pa_cons (pe_bty (by rfl) T.b_bool PyProof.Rows.Boot.«bool») pa_nil)))))))), ?_⟩
  refine ⟨_, rfl, x, _, b1, rfl, .inl ⟨_, rfl⟩, ⟨t, ty, k1⟩, b1, rfl, ?_⟩
  cases b1 with
  | false => exact iteF q
  | true => exact iteT ⟨_, rfl, x, _, b2, rfl, .inl ⟨_, rfl⟩, ⟨t, ty, k2⟩, b2, rfl, q⟩
theorem sc_common_divisor : FnScope ["one", "other", "great", "small", "steps", "rest"] ["one", "other"] (defScope (top 5)) := ⟨rfl, rfl, rfl, by decide +kernel, rfl, by decide +kernel, by decide +kernel⟩
theorem ok_common_divisor (D : Df K mg "common_divisor" (top 5) ["one", "other"]) (T : Tx K mg) : Fn P w K mg base 1 "common_divisor" ["one", "other"] spGcdB := by
  refine D.ok0 sc_common_divisor (fun vs H Q E h => ?_) (fun f cdv A outer s H vs Q E hr h => ?_)
  · obtain ⟨a, b, rfl, _⟩ := h
    rfl
  obtain ⟨a, b, rfl, hb, q⟩ := h
  refine ⟨_, (pss_cons (ps_set (i := 2) sc_common_divisor.nd rfl (Or.inl rfl) (pe_callB call_abs (by rfl) T.b_abs PyProof.Rows.Boot.«abs» (pa_cons (pv 0) pa_nil)))
      (pss_cons (ps_set (i := 3) sc_common_divisor.nd rfl (Or.inl rfl) (pe_callB call_abs (by rfl) T.b_abs PyProof.Rows.Boot.«abs» (pa_cons (pv 1) pa_nil)))
      (pss_cons (ps_while PassesOwn.never (pt_cmpR op_gt (pe_bm0 PySem.F.plainAttrs_int PySem.F.slot_int_bit_length PySem.F.type_int_bit_length mt_bits (pe_callB (call_min2 rfl) (by rfl) T.b_min PyProof.Rows.Boot.«min» (pa_cons (pv 2) (pa_cons (pv 3) pa_nil)))) (pe_globI (by rfl) T.k_LONG_BITS) (nomark _)) pss_never)
      (pss_cons (ps_while PassesOwn.never (pt_cmpR op_gt (pv 3) pe_int (nomark _)) (pss_cons (ps_set (i := 5) sc_common_divisor.nd rfl (Or.inl rfl) (pe_op op_mod (pv 2) (pv 3)))
      (pss_cons (ps_set (i := 2) sc_common_divisor.nd rfl (Or.inl rfl) (pv 3))
      (pss_one (ps_set (i := 3) sc_common_divisor.nd rfl (Or.inl rfl) (pv 5))))))
      (pss_one (ps_ret (pv 2))))))), ?_⟩
  refine ⟨_, rfl, _, rfl, _, rfl, _, rfl, ?_⟩
  refine ⟨fun m σ' H' => ∃ r1 r2 : Option V, σ' = [some (.int a), some (.int b), some (.int (if a < 0 then -a else a)), some (.int (if b < 0 then -b else b)), r1, r2] ∧ H' = H, ⟨0, _, _, rfl, rfl⟩, ?_⟩
  rintro m σ' H' ⟨r1, r2, rfl, rfl⟩
  refine ⟨_, rfl, _, rfl, _, _, rfl, rfl, _, rfl, rfl, _, _, rfl, rfl, _, rfl, ?_⟩
  refine if_dec (fun c => absurd c (short_min hb)) (fun _ => ?_)
  refine ⟨fun m σ' H2 => ∃ g s : Int, ∃ r1 r2 : Option V, σ' = [some (.int a), some (.int b), some (.int g), some (.int s), r1, r2] ∧ H2 = H' ∧ 0 ≤ g ∧ 0 ≤ s ∧ m = s.toNat ∧ Int.gcd g s = Int.gcd a b, ⟨_, _, _, _, _, rfl, rfl, abs_nn a, abs_nn b, rfl, gcd_abs a b⟩, ?_⟩
  rintro m σ' H2 ⟨g, s, r1, r2, rfl, rfl, hg, hs, rfl, e⟩
  refine ⟨_, rfl, _, _, rfl, rfl, _, rfl, ?_⟩
  refine if_dec (fun c => ?_) (fun c => ?_)
  · refine ⟨_, fun _ _ n => n, ?_⟩
    refine ⟨_, rfl, _, rfl, _, _, rfl, rfl, c, _, rfl, _, rfl, ?_⟩
    have l := Int.emod_lt_of_pos g c
    have l0 := Int.emod_nonneg g (show s ≠ 0 by omega)
    exact ⟨_, by omega, s, g % s, _, _, rfl, rfl, by omega, l0, rfl, (gcd_step g s hg c).trans e⟩
  · refine ⟨_, rfl, ?_⟩
    have s0 : s = 0 := by omega
    subst s0
    have z := gcd_end g hg
    rw [e] at z
    rw [← z]
    exact q
def sp_plus (K : PySem.W.Frag) : Sp := fun vs H Q _ => ∃ (p_x : Addr) (x : Rat) (p_y : Addr) (y : Rat), vs = [.ref p_x, .ref p_y] ∧ FQ K H p_x x ∧ FB 8900 x ∧ FQ K H p_y y ∧ FB 4000 y ∧ (∀ (p_r : Addr) (H1 : Hp), Same H H1 → FQ K H1 p_r (x + y) → Q (.ref p_r) H1)
theorem sc_plus : FnScope ["one", "other", "shared", "top", "divisor"] ["one", "other"] (defScope (top 7)) := ⟨rfl, rfl, rfl, by decide +kernel, rfl, by decide +kernel, by decide +kernel⟩
theorem ok_plus (D : Df K mg "plus" (top 7) ["one", "other"]) (T : Tx K mg) (F_common_divisor : Fn P w K mg base 1 "common_divisor" ["one", "other"] spGcdB) : Fn P w K mg base 2 "plus" ["one", "other"] (sp_plus K) := by
  refine D.ok0 sc_plus (fun vs H Q E h => ?_) (fun f cdv A outer s H vs Q E hr h => ?_)
  · obtain ⟨p, x, q, y, rfl, _⟩ := h
    rfl
  obtain ⟨p, x, q, y, rfl, hp, ⟨ha, hb⟩, hq, ⟨hc, hd⟩, k⟩ := h
  refine ⟨_, (pss_cons (ps_set (i := 2) sc_plus.nd rfl (Or.inl rfl) (pe_fn F_common_divisor (by decide) hr (by rfl) passE0 (pa_cons (pe_ix ix_tup (pv 0) pe_int (fun _ _ => rfl)) (pa_cons (pe_ix ix_tup (pv 1) pe_int (fun _ _ => rfl)) pa_nil))))
      (pss_cons (ps_set (i := 3) sc_plus.nd rfl (Or.inl rfl) (pe_op op_add (pe_op op_mulB (pe_ix ix_tup (pv 0) pe_int (fun _ _ => rfl)) (pe_op op_fdivB (pe_ix ix_tup (pv 1) pe_int (fun _ _ => rfl)) (pv 2))) (pe_op op_mulB (pe_ix ix_tup (pv 1) pe_int (fun _ _ => rfl)) (pe_op op_fdivB (pe_ix ix_tup (pv 0) pe_int (fun _ _ => rfl)) (pv 2)))))
      (pss_cons (ps_set (i := 4) sc_plus.nd rfl (Or.inl rfl) (pe_fn F_common_divisor (by decide) hr (by rfl) passE0 (pa_cons (pv 3) (pa_cons (pv 2) pa_nil))))
      (pss_one (ps_ret (pe_tup (pa_cons (pe_op op_fdivB (pv 3) (pv 4)) (pa_cons (pe_op op_mulB (pe_op op_fdivB (pe_ix ix_tup (pv 0) pe_int (fun _ _ => rfl)) (pv 2)) (pe_op op_fdivB (pe_ix ix_tup (pv 1) pe_int (fun _ _ => rfl)) (pv 4))) pa_nil)))))))), ?_⟩
  refine ⟨_, rfl, p, _, _, _, rfl, rfl, hp, rfl, _, rfl, q, _, _, _, rfl, rfl, hq, rfl, _, _, rfl, hd, ?_⟩
  have g0 := gpos (a := ((x.den : Nat) : Int)) (q_ne y)
  have bg := bd_gcdR (a := ((x.den : Nat) : Int)) (q_ne y) hd
  have dg1 : (((Int.gcd ((x.den : Nat) : Int) ((y.den : Nat) : Int) : Nat) : Int)) ∣ ((x.den : Nat) : Int) := Int.gcd_dvd_left ..
  have dg2 : (((Int.gcd ((x.den : Nat) : Int) ((y.den : Nat) : Int) : Nat) : Int)) ∣ ((y.den : Nat) : Int) := Int.gcd_dvd_right ..
  generalize hg : ((Int.gcd ((x.den : Nat) : Int) ((y.den : Nat) : Int) : Nat) : Int) = g at g0 bg dg1 dg2 ⊢
  have g1 : g ≠ 0 := by omega
  have lg := (bg.mono (n := 9000) (by decide)).log
  have b1 := bd_quot hd dg2 g1
  have b2 := bd_quot hb dg1 g1
  refine ⟨_, rfl, p, _, _, _, rfl, rfl, hp, rfl, _, rfl, q, _, _, _, rfl, rfl, hq, rfl, _, rfl, _, _, rfl, rfl, ⟨g1, lg⟩, _, _, rfl, rfl, ha.ok b1 (by decide), _, rfl, q, _, _, _, rfl, rfl, hq, rfl, _, rfl, p, _, _, _, rfl, rfl, hp, rfl, _, rfl, _, _, rfl, rfl, ⟨g1, lg⟩, _, _, rfl, rfl, hc.ok b2 (by decide), _, _, rfl, rfl, ?_⟩
  dsimp only
  have bt := (ha.mul b1).add (hc.mul b2)
  generalize ht : x.num * ((y.den : Nat) : Int).fdiv g + y.num * ((x.den : Nat) : Int).fdiv g = t at bt ⊢
  refine ⟨_, rfl, _, rfl, _, _, rfl, bg, ?_⟩
  have h0 := gpos (a := t) g1
  have bh := bd_gcdR (a := t) g1 bg
  have dh : ((Int.gcd t g : Nat) : Int) ∣ g := Int.gcd_dvd_right ..
  generalize hh : ((Int.gcd t g : Nat) : Int) = h at h0 bh dh ⊢
  have h1 : h ≠ 0 := by omega
  have lh := (bh.mono (n := 9000) (by decide)).log
  have b3 := bd_quot hd (Int.dvd_trans dh dg2) h1
  refine ⟨_, rfl, _, rfl, _, _, rfl, rfl, ⟨h1, lh⟩, _, rfl, p, _, _, _, rfl, rfl, hp, rfl, _, rfl, _, _, rfl, rfl, ⟨g1, lg⟩, _, rfl, q, _, _, _, rfl, rfl, hq, rfl, _, rfl, _, _, rfl, rfl, ⟨h1, lh⟩, _, _, rfl, rfl, b2.ok b3 (by decide), by show 2 ≤ sizeLine; decide, ?_⟩
  refine rd_new fun r H1 sm hr1 => k r H1 sm ?_
  obtain ⟨e1, e2⟩ := q_plus x y g t h hg.symm ht.symm hh.symm
  have z := SqT.of (K := K) hr1
  dsimp only at z
  rw [e1, e2] at z
  exact z
def sp_under (K : PySem.W.Frag) : Sp := fun vs H Q _ => ∃ (p_x : Addr) (x : Rat) (p_y : Addr) (y : Rat), vs = [.ref p_x, .ref p_y] ∧ FQ K H p_x x ∧ FB 8900 x ∧ FQ K H p_y y ∧ FB 8900 y ∧ (∀  (H1 : Hp), Same H H1 → Q (.bl (decide (x < y))) H1)
theorem sc_under : FnScope ["one", "other"] ["one", "other"] (defScope (top 8)) := ⟨rfl, rfl, rfl, by decide +kernel, rfl, by decide +kernel, by decide +kernel⟩
theorem ok_under (D : Df K mg "under" (top 8) ["one", "other"]) (T : Tx K mg) : Fn P w K mg base 1 "under" ["one", "other"] (sp_under K) := by
  refine D.ok0 sc_under (fun vs H Q E h => ?_) (fun f cdv A outer s H vs Q E hr h => ?_)
  · obtain ⟨p_x, x, p_y, y, rfl, _⟩ := h
    rfl
  obtain ⟨p_x, x, p_y, y, rfl, g_x, d_x, g_y, d_y, k0⟩ := h
  refine ⟨_, (pss_one (ps_ret (pe_cmpR op_lt (pe_op op_mulB (pe_ix ix_tup (pv 0) pe_int (fun _ _ => rfl)) (pe_ix ix_tup (pv 1) pe_int (fun _ _ => rfl))) (pe_op op_mulB (pe_ix ix_tup (pv 1) pe_int (fun _ _ => rfl)) (pe_ix ix_tup (pv 0) pe_int (fun _ _ => rfl))) (nomark _)))), ?_⟩
  refine ⟨_, rfl, p_x, _, _, _, rfl, rfl, g_x, rfl, _, rfl, p_y, _, _, _, rfl, rfl, g_y, rfl, _, _, rfl, rfl, (d_x.1.ok d_y.2 (by decide)), _, rfl, p_y, _, _, _, rfl, rfl, g_y, rfl, _, rfl, p_x, _, _, _, rfl, rfl, g_x, rfl, _, _, rfl, rfl, (d_y.1.ok d_x.2 (by decide)), _, _, rfl, rfl, ?_⟩
  try dsimp only
  rw [show decide (((x).num * (((y).den : Nat) : Int)) < ((y).num * (((x).den : Nat) : Int))) = decide (x < y) from decide_eq_decide.mpr (by exact (q_lt x y).symm)]
  exact k0 _ (Same.refl _)
def spIsFrac (K : PySem.W.Frag) : Sp := fun vs H Q _ => ∃ x b, vs = [x] ∧ FracB K H x b ∧ Q (.bl b) H
theorem sc_is_fraction : FnScope ["thing", "top", "bottom"] ["thing"] (defScope (top 6)) := ⟨rfl, rfl, rfl, by decide +kernel, rfl, by decide +kernel, by decide +kernel⟩
theorem ok_is_fraction (D : Df K mg "is_fraction" (top 6) ["thing"]) (T : Tx K mg) (F_is_whole : Fn P w K mg base 1 "is_whole" ["thing"] (spWhole K)) (F_common_divisor : Fn P w K mg base 1 "common_divisor" ["one", "other"] spGcdB) :
    Fn P w K mg base 2 "is_fraction" ["thing"] (spIsFrac K) := by
  refine D.ok0 sc_is_fraction (fun vs H Q E h => ?_) (fun f cdv A outer s H vs Q E hr h => ?_)
  · obtain ⟨x, b, rfl, _⟩ := h
    rfl
  obtain ⟨x, b, rfl, hf, q⟩ := h
  refine ⟨_, (pss_cons (ps_if (pw_or (pt_not (pt_val (pe_callB call_isinst (by rfl) T.b_isinstance PyProof.Rows.Boot.«isinstance» (pa_cons (pv 0) (pa_cons (pe_bty (by rfl) T.b_tuple PyProof.Rows.Boot.«tuple») pa_nil))) (fun _ => rfl))) (pw_or1 (pt_cmpR op_ne (pe_callB call_len (by rfl) T.b_len PyProof.Rows.Boot.«len» (pa_cons (pv 0) pa_nil)) pe_int (nomark _)))).pt (pss_one (ps_ret pe_bl)) pss_nil)
      (pss_cons (ps_set (i := 1) sc_is_fraction.nd rfl (Or.inl rfl) (pe_ix ix_tup (pv 0) pe_int (fun _ _ => rfl)))
      (pss_cons (ps_set (i := 2) sc_is_fraction.nd rfl (Or.inl rfl) (pe_ix ix_tup (pv 0) pe_int (fun _ _ => rfl)))
      (pss_cons (ps_if (pw_or (pt_not (pt_val (pe_fn F_is_whole (by decide) hr (by rfl) passE0 (pa_cons (pv 1) pa_nil)) (fun _ => rfl))) (pw_or1 (pt_not (pt_val (pe_fn F_is_whole (by decide) hr (by rfl) passE0 (pa_cons (pv 2) pa_nil)) (fun _ => rfl))))).pt (pss_one (ps_ret pe_bl)) pss_nil)
      (pss_one (ps_ret (pe_and (pe_cmpR op_ge (pv 2) pe_int (nomark _)) (pe_one (pe_cmpR op_eq (pe_fn F_common_divisor (by decide) hr (by rfl) passE0 (pa_cons (pv 1) (pa_cons (pv 2) pa_nil))) pe_int (nomark _)))))))))), ?_⟩
  rcases hf with ⟨rfl, t, ty, kt⟩ | ⟨rfl, p, xs, rfl, hp, hl⟩ | ⟨rfl, p, u, v, rfl, hp, hn⟩ | ⟨p, i, j, rfl, hp, bj, rfl⟩
  · exact ⟨_, rfl, _, _, false, rfl, .inl ⟨_, rfl⟩, ⟨_, ty, kt⟩, _, rfl, iteT q⟩
  · refine ⟨_, rfl, _, _, true, rfl, .inl ⟨_, rfl⟩, ⟨_, .tup hp, kit_tup_tup⟩, _, rfl, iteF ?_⟩
    refine ⟨_, rfl, _, _, rfl, .inr ⟨_, SqT.of hp, rfl⟩, rfl, _, rfl, ?_⟩
    refine if_neI (fun _ => q) (fun z => ?_)
    exact absurd (show xs.length = 2 by omega) hl
  · refine ⟨_, rfl, _, _, true, rfl, .inl ⟨_, rfl⟩, ⟨_, .tup hp, kit_tup_tup⟩, _, rfl, iteF ?_⟩
    refine ⟨_, rfl, _, _, rfl, .inr ⟨_, SqT.of hp, rfl⟩, rfl, _, rfl, iteF ?_⟩
    refine ⟨_, rfl, p, _, _, _, rfl, rfl, SqT.of hp, rfl, _, rfl, p, _, _, _, rfl, rfl, SqT.of hp, rfl, ?_⟩
    rcases hn with ⟨t, b1, b2, ty, k1, k2, k3⟩ | ⟨⟨i, rfl⟩, t, b1, b2, ty, k1, k2, k3⟩
    · refine ⟨_, rfl, _, _, b1, b2, rfl, ty, k1, k2, _, rfl, ?_⟩
      rw [k3]
      exact iteT q
    · refine ⟨_, rfl, _, _, true, false, rfl, .int i, kit_int_int, kit_int_bool, _, rfl, iteF ?_⟩
      refine ⟨_, rfl, _, _, b1, b2, rfl, ty, k1, k2, _, rfl, ?_⟩
      rw [k3]
      exact iteT q
  · refine ⟨_, rfl, _, _, true, rfl, .inl ⟨_, rfl⟩, ⟨_, .tup hp, kit_tup_tup⟩, _, rfl, iteF ?_⟩
    refine ⟨_, rfl, _, _, rfl, .inr ⟨_, SqT.of hp, rfl⟩, rfl, _, rfl, iteF ?_⟩
    refine ⟨_, rfl, p, _, _, _, rfl, rfl, SqT.of hp, rfl, _, rfl, p, _, _, _, rfl, rfl, SqT.of hp, rfl, ?_⟩
    refine ⟨_, rfl, _, _, true, false, rfl, .int i, kit_int_int, kit_int_bool, _, rfl, iteF ?_⟩
    refine ⟨_, rfl, _, _, true, false, rfl, .int j, kit_int_int, kit_int_bool, _, rfl, iteF ?_⟩
    refine ⟨_, rfl, _, _, rfl, rfl, _, rfl, ?_⟩
    refine if_dec (fun c => ?_) (fun c => ?_)
    · rw [decide_eq_true c, Bool.true_and] at q
      refine ⟨_, rfl, _, rfl, i, j, rfl, bj, rfl, ?_⟩
      rw [show decide (V.int ((Int.gcd i j : Nat) : Int) = V.int 1) = decide (((Int.gcd i j : Nat) : Int) = 1) by simp only [V.int.injEq]]
      exact q
    · rw [decide_eq_false c, Bool.false_and] at q
      exact q
def spWt (K : PySem.W.Frag) : Sp := fun vs H Q _ => ∃ x c, vs = [x] ∧ WtC K H x c ∧ Q (.bl c) H
theorem sc_is_weight : FnScope ["thing"] ["thing"] (defScope (top 12)) := ⟨rfl, rfl, rfl, by decide +kernel, rfl, by decide +kernel, by decide +kernel⟩
theorem ok_is_weight (D : Df K mg "is_weight" (top 12) ["thing"]) (T : Tx K mg) (F_is_whole : Fn P w K mg base 1 "is_whole" ["thing"] (spWhole K)) : Fn P w K mg base 2 "is_weight" ["thing"] (spWt K) := by
  refine D.ok0 sc_is_weight (fun vs H Q E h => ?_) (fun f cdv A outer s H vs Q E hr h => ?_)
  · obtain ⟨x, c, rfl, _⟩ := h
    rfl
  obtain ⟨x, c, rfl, hw, q⟩ := h
  refine ⟨_, (pss_one (ps_ret (pe_and (pe_fn F_is_whole (by decide) hr (by rfl) passE0 (pa_cons (pv 0) pa_nil)) (pe_one (pe_chain op_le op_le pe_int (pv 0) (pe_globI (by rfl) T.k_MOST_WEIGHT)))))), ?_⟩
  rcases hw with ⟨rfl, t, b1, b2, ty, k1, k2, k3⟩ | ⟨i, rfl, rfl⟩
  · refine ⟨_, rfl, _, _, b1, b2, rfl, ty, k1, k2, _, rfl, ?_⟩
    rw [k3]
    exact iteF q
  · refine ⟨_, rfl, _, _, true, false, rfl, .int i, kit_int_int, kit_int_bool, _, rfl, iteT ?_⟩
    refine ⟨_, rfl, _, _, rfl, rfl, _, rfl, ?_⟩
    refine if_dec (fun c => ?_) (fun c => ?_)
    · rw [decide_eq_true c, Bool.true_and] at q
      exact ⟨_, _, rfl, rfl, q⟩
    · rw [decide_eq_false c, Bool.false_and] at q
      exact q
def spBreadth (K : PySem.W.Frag) : Sp := fun vs H Q _ => ∃ x c d, vs = [x] ∧ TopC K H x c d ∧ ∀ H', Same H H' → Q (.bl (c && d)) H'
theorem sc_is_breadth : FnScope ["thing"] ["thing"] (defScope (top 17)) := ⟨rfl, rfl, rfl, by decide +kernel, rfl, by decide +kernel, by decide +kernel⟩
theorem ok_is_breadth (D : Df K mg "is_breadth" (top 17) ["thing"]) (T : Tx K mg) (F_is_fraction : Fn P w K mg base 2 "is_fraction" ["thing"] (spIsFrac K)) (F_under : Fn P w K mg base 1 "under" ["one", "other"] (sp_under K)) : Fn P w K mg base 3 "is_breadth" ["thing"] (spBreadth K) := by
  refine D.ok0 sc_is_breadth (fun vs H Q E h => ?_) (fun f cdv A outer s H vs Q E hr h => ?_)
  · obtain ⟨x, c, d, rfl, _⟩ := h
    rfl
  obtain ⟨x, c, d, rfl, ht, q⟩ := h
  refine ⟨_, (pss_one (ps_ret (pe_and (pe_fn F_is_fraction (by decide) hr (by rfl) passE0 (pa_cons (pv 0) pa_nil)) (pe_one (pe_fn F_under (by decide) hr (by rfl) passE0 (pa_cons (pe_globT (K := K) rfl (by rfl) T.k_NOUGHT) (pa_cons (pv 0) pa_nil))))))), ?_⟩
  refine ⟨_, rfl, x, c, rfl, ht.1.toB, _, rfl, ?_⟩
  cases c with
  | false => exact iteF (q H (Same.refl H))
  | true =>
    obtain ⟨p, i, j, rfl, hp, b1, b2, j1, g, rfl⟩ := ht.2 rfl
    refine iteT (fun N hN => ?_)
    have g0 : FQ K H N (((0 : Int)) : Rat) := hN _
    have e := q_of (n := i) (d := j) (by omega) g
    have g1 : FQ K H p (Rat.divInt i j) := FQ.lit (SqT.of hp) (by omega) g
    have d1 : FB 3000 (Rat.divInt i j) := FB.fit (by omega) b1 b2
    refine ⟨_, rfl, N, _, p, _, rfl, g0, (FB.ofInt (n := 64) (Bd.small (i := 0) (by decide) (by decide)) (by decide)).mono (by decide), g1, d1.mono (by decide), fun H1 s1 => ?_⟩
    have z := q H1 s1
    have ez : decide ((((0 : Int)) : Rat) < Rat.divInt i j) = decide (0 < i) := decide_eq_decide.mpr (by
      have z1 := q_lt (((0 : Int)) : Rat) (Rat.divInt i j)
      rw [e.1, e.2] at z1
      rw [z1]
      show (0 * j < i * 1 ↔ 0 < i)
      rw [Int.zero_mul, Int.mul_one])
    rw [Bool.true_and, ← ez] at z
    exact z
def spBoxC (K : PySem.W.Frag) : Sp := fun vs H Q _ => ∃ x c, vs = [x] ∧ BoxC K H x c ∧ ∀ H', Same H H' → Q (.bl c) H'
def spRoomC (K : PySem.W.Frag) : Sp := fun vs H Q _ => ∃ x c, vs = [x] ∧ RoomC K H x c ∧ ∀ H', Same H H' → Q (.bl c) H'
theorem sc_is_box : FnScope ["thing"] ["thing"] (defScope (top 18)) := ⟨rfl, rfl, rfl, by decide +kernel, rfl, by decide +kernel, by decide +kernel⟩
theorem ok_is_box (D : Df K mg "is_box" (top 18) ["thing"]) (T : Tx K mg) (F_is_fraction : Fn P w K mg base 2 "is_fraction" ["thing"] (spIsFrac K)) (F_is_breadth : Fn P w K mg base 3 "is_breadth" ["thing"] (spBreadth K)) (F_is_weight : Fn P w K mg base 2 "is_weight" ["thing"] (spWt K)) : Fn P w K mg base 4 "is_box" ["thing"] (spBoxC K) := by
  refine D.ok0 sc_is_box (fun vs H Q E h => ?_) (fun f cdv A outer s H vs Q E hr h => ?_)
  · obtain ⟨x, c, rfl, _⟩ := h
    rfl
  obtain ⟨x, c, rfl, hb, q⟩ := h
  refine ⟨_, (pss_cons (ps_if (pw_or (pt_not (pt_val (pe_callB call_isinst (by rfl) T.b_isinstance PyProof.Rows.Boot.«isinstance» (pa_cons (pv 0) (pa_cons (pe_bty (by rfl) T.b_tuple PyProof.Rows.Boot.«tuple») pa_nil))) (fun _ => rfl))) (pw_or1 (pt_cmpR op_ne (pe_callB call_len (by rfl) T.b_len PyProof.Rows.Boot.«len» (pa_cons (pv 0) pa_nil)) pe_int (nomark _)))).pt (pss_one (ps_ret pe_bl)) pss_nil)
      (pss_cons (ps_if (pt_not (pt_val (pe_callB (call_all (K := K) rfl rfl) (by rfl) T.b_all PyProof.Rows.Boot.«all» (pa_cons (@pe_lc _ _ _ _ _ _ _ _ _ _ ["thing"] [0] rfl (pi_tup (pe_tup (pa_cons pe_int (pa_cons pe_int (pa_cons pe_int (pa_cons pe_int pa_nil)))))) rfl (by decide) rfl (by decide) rfl (by decide) (cap_one (j := 0) rfl rfl rfl rfl (.inl rfl)) (fun y c h => h) (cap_fr rfl) (fun C z Hc fp => (pe_fn F_is_fraction (by decide) hr (by rfl) passE0 (pa_cons (pe_ix (ixT (K := K) rfl) (pv 1) (pv 0) (fun _ _ => rfl)) pa_nil))) (fun _ => rfl)) pa_nil)) (fun _ => rfl))) (pss_one (ps_ret pe_bl)) pss_nil)
      (pss_one (ps_ret (pe_and (pe_fn F_is_breadth (by decide) hr (by rfl) passE0 (pa_cons (pe_ix ix_tup (pv 0) pe_int (fun _ _ => rfl)) pa_nil)) (pe_and (pe_fn F_is_breadth (by decide) hr (by rfl) passE0 (pa_cons (pe_ix ix_tup (pv 0) pe_int (fun _ _ => rfl)) pa_nil)) (pe_one (pe_fn F_is_weight (by decide) hr (by rfl) passE0 (pa_cons (pe_ix ix_tup (pv 0) pe_int (fun _ _ => rfl)) pa_nil))))))))), ?_⟩
  have q0 := q H (Same.refl H)
  rcases hb with ⟨rfl, t, ty, kt⟩ | ⟨rfl, p, xs, rfl, hp, hl⟩ | ⟨p, v0, v1, v2, v3, v4, v5, v6, c0, c1, c2, c3, c4, c5, c6, d2, d3, rfl, hp, f0, f1, f2, f3, f4, f5, f6, rfl⟩
  · exact ⟨_, rfl, _, _, false, rfl, .inl ⟨_, rfl⟩, ⟨_, ty, kt⟩, _, rfl, iteT q0⟩
  · refine ⟨_, rfl, _, _, true, rfl, .inl ⟨_, rfl⟩, ⟨_, .tup hp, kit_tup_tup⟩, _, rfl, iteF ?_⟩
    refine ⟨_, rfl, _, _, rfl, .inr ⟨_, SqT.of hp, rfl⟩, rfl, _, rfl, ?_⟩
    refine if_neI (fun _ => q0) (fun z => ?_)
    exact absurd (show xs.length = 7 by omega) hl
  · refine ⟨_, rfl, _, _, true, rfl, .inl ⟨_, rfl⟩, ⟨_, .tup hp, kit_tup_tup⟩, _, rfl, iteF ?_⟩
    refine ⟨_, rfl, _, _, rfl, .inr ⟨_, SqT.of hp, rfl⟩, rfl, _, rfl, iteF ?_⟩
    refine ⟨by show 4 ≤ sizeLine; decide, ?_⟩
    intro p1 n1
    obtain ⟨H1, q1, s1, e1⟩ := newO n1 (.tup [.int 0, .int 1, .int 4, .int 5])
    rw [q1]
    clear q1
    have hp1 := s1 _ _ hp
    refine ⟨p1, rfl, ⟨_, SqT.of e1⟩, lc_tup (K := K) (xs := [.int 0, .int 1, .int 4, .int 5]) (fun i ys H' => H1 = H' ∧ ys = ([c0, c1, c4, c5].take i).map V.bl ∧ i ≤ 4) ⟨rfl, rfl, by omega⟩ (by rw [sizeLine_eq]; simp) (fun i ys H' ⟨_, e, l⟩ => by rw [e]; simp; omega) (fun i ys H' ⟨e, _⟩ => by rw [← e]; exact SqT.of e1) ?_ ?_⟩
    · rintro i y ys H' Q' hy ⟨rfl, rfl, li⟩ k
      match i, hy with
      | 0, hy => cases hy; exact ⟨_, rfl, _, rfl, p, _, _, _, rfl, rfl, SqT.of hp1, rfl, v0, c0, rfl, (f0.same s1).toB, k _ _ ⟨rfl, rfl, by omega⟩⟩
      | 1, hy => cases hy; exact ⟨_, rfl, _, rfl, p, _, _, _, rfl, rfl, SqT.of hp1, rfl, v1, c1, rfl, (f1.same s1).toB, k _ _ ⟨rfl, rfl, by omega⟩⟩
      | 2, hy => cases hy; exact ⟨_, rfl, _, rfl, p, _, _, _, rfl, rfl, SqT.of hp1, rfl, v4, c4, rfl, (f4.same s1).toB, k _ _ ⟨rfl, rfl, by omega⟩⟩
      | 3, hy => cases hy; exact ⟨_, rfl, _, rfl, p, _, _, _, rfl, rfl, SqT.of hp1, rfl, v5, c5, rfl, (f5.same s1).toB, k _ _ ⟨rfl, rfl, by omega⟩⟩
    · rintro ys H' ⟨rfl, ey, _⟩
      replace ey : ys = [c0, c1, c4, c5].map V.bl := ey
      subst ey
      intro p5 n5
      obtain ⟨H5, q5, s5, e5⟩ := newO n5 (.lst ([c0, c1, c4, c5].map V.bl))
      rw [q5]
      clear q5
      have s15 := s1.trans s5
      refine ⟨p5, [c0, c1, c4, c5], rfl, SqL.of e5, _, rfl, ?_⟩
      generalize [c0, c1, c4, c5].all id = ca at q q0 ⊢
      cases ca with
      | false => exact iteT (q _ s15)
      | true =>
        refine iteF ?_
        have hp5 := s15 _ _ hp
        refine ⟨_, rfl, p, _, _, _, rfl, rfl, SqT.of hp5, rfl, v2, c2, d2, rfl, f2.same s15, fun H6 s6 => ⟨_, rfl, ?_⟩⟩
        have s16 := s15.trans s6
        generalize (c2 && d2) = cb at q q0 ⊢
        cases cb with
        | false => exact iteF (q _ s16)
        | true =>
          have hp6 := s16 _ _ hp
          refine iteT ⟨_, rfl, p, _, _, _, rfl, rfl, SqT.of hp6, rfl, v3, c3, d3, rfl, f3.same s16, fun H7 s7 => ⟨_, rfl, ?_⟩⟩
          have s17 := s16.trans s7
          generalize (c3 && d3) = cc at q q0 ⊢
          cases cc with
          | false => exact iteF (q _ s17)
          | true =>
            have hp7 := s17 _ _ hp
            refine iteT ⟨_, rfl, p, _, _, _, rfl, rfl, SqT.of hp7, rfl, v6, c6, rfl, f6.same s17, ?_⟩
            exact q _ s17
theorem sc_is_room : FnScope ["thing"] ["thing"] (defScope (top 19)) := ⟨rfl, rfl, rfl, by decide +kernel, rfl, by decide +kernel, by decide +kernel⟩
theorem ok_is_room (D : Df K mg "is_room" (top 19) ["thing"]) (T : Tx K mg) (F_is_breadth : Fn P w K mg base 3 "is_breadth" ["thing"] (spBreadth K)) : Fn P w K mg base 4 "is_room" ["thing"] (spRoomC K) := by
  refine D.ok0 sc_is_room (fun vs H Q E h => ?_) (fun f cdv A outer s H vs Q E hr h => ?_)
  · obtain ⟨x, c, rfl, _⟩ := h
    rfl
  obtain ⟨x, c, rfl, hb, q⟩ := h
  refine ⟨_, (pss_one (ps_ret (pe_and (pe_callB call_isinst (by rfl) T.b_isinstance PyProof.Rows.Boot.«isinstance» (pa_cons (pv 0) (pa_cons (pe_bty (by rfl) T.b_tuple PyProof.Rows.Boot.«tuple») pa_nil))) (pe_and (pe_cmpR op_eq (pe_callB call_len (by rfl) T.b_len PyProof.Rows.Boot.«len» (pa_cons (pv 0) pa_nil)) pe_int (nomark _)) (pe_and (pe_fn F_is_breadth (by decide) hr (by rfl) passE0 (pa_cons (pe_ix ix_tup (pv 0) pe_int (fun _ _ => rfl)) pa_nil)) (pe_one (pe_fn F_is_breadth (by decide) hr (by rfl) passE0 (pa_cons (pe_ix ix_tup (pv 0) pe_int (fun _ _ => rfl)) pa_nil)))))))), ?_⟩
  have q0 := q H (Same.refl H)
  rcases hb with ⟨rfl, t, ty, kt⟩ | ⟨rfl, p, xs, rfl, hp, hl⟩ | ⟨p, v0, v1, c0, c1, d0, d1, rfl, hp, f0, f1, rfl⟩
  · exact ⟨_, rfl, _, _, false, rfl, .inl ⟨_, rfl⟩, ⟨_, ty, kt⟩, _, rfl, iteF q0⟩
  · refine ⟨_, rfl, _, _, true, rfl, .inl ⟨_, rfl⟩, ⟨_, .tup hp, kit_tup_tup⟩, _, rfl, iteT ?_⟩
    refine ⟨_, rfl, _, _, rfl, .inr ⟨_, SqT.of hp, rfl⟩, rfl, _, rfl, ?_⟩
    refine if_decI (fun z => absurd (show xs.length = 2 by omega) hl) (fun z => ?_)
    exact q0
  · refine ⟨_, rfl, _, _, true, rfl, .inl ⟨_, rfl⟩, ⟨_, .tup hp, kit_tup_tup⟩, _, rfl, iteT ?_⟩
    refine ⟨_, rfl, _, _, rfl, .inr ⟨_, SqT.of hp, rfl⟩, rfl, _, rfl, iteT ?_⟩
    refine ⟨_, rfl, p, _, _, _, rfl, rfl, SqT.of hp, rfl, v0, c0, d0, rfl, f0, fun H6 s6 => ⟨_, rfl, ?_⟩⟩
    generalize (c0 && d0) = cb at q q0 ⊢
    cases cb with
    | false => exact iteF (q _ s6)
    | true =>
      have hp6 := s6 _ _ hp
      refine iteT ⟨_, rfl, p, _, _, _, rfl, rfl, SqT.of hp6, rfl, v1, c1, d1, rfl, f1.same s6, fun H7 s7 => ?_⟩
      exact q _ (s6.trans s7)
def spFar (K : PySem.W.Frag) : Sp := fun vs H Q _ => ∃ z k i, vs = [z, .int i] ∧ BxS K H z k ∧ (i = 0 ∨ i = 1) ∧ ∀ p H', Same H H' → FQ K H' p (if i = 0 then k.x + k.w else k.y + k.h) → Q (.ref p) H'
theorem sc_far_side : FnScope ["box", "way"] ["box", "way"] (defScope (top 20)) := ⟨rfl, rfl, rfl, by decide +kernel, rfl, by decide +kernel, by decide +kernel⟩
theorem ok_far_side (D : Df K mg "far_side" (top 20) ["box", "way"]) (T : Tx K mg) (F_plus : Fn P w K mg base 2 "plus" ["one", "other"] (sp_plus K)) : Fn P w K mg base 3 "far_side" ["box", "way"] (spFar K) := by
  refine D.ok0 sc_far_side (fun vs H Q E h => ?_) (fun f cdv A outer s H vs Q E hr h => ?_)
  · obtain ⟨z, k, i, rfl, _⟩ := h
    rfl
  obtain ⟨z, k, i, rfl, ⟨p, a0, a1, a2, a3, v4, v5, v6, rfl, hp, ⟨g0, g1, g2, g3⟩, ⟨d0, d1, d2, d3⟩, w0, w1⟩, hi, q⟩ := h
  refine ⟨_, (pss_one (ps_ret (pe_fn F_plus (by decide) hr (by rfl) passE0 (pa_cons (pe_ix ix_tup (pv 0) (pv 1) (fun _ _ => rfl)) (pa_cons (pe_ix ix_tup (pv 0) (pe_op op_add (pe_globI (by rfl) T.k_SIZES) (pv 1)) (fun _ _ => rfl)) pa_nil))))), ?_⟩
  have md : ∀ {x : Rat}, FB 1200 x → FB 4000 x := fun h => h.mono (by decide)
  have me : ∀ {x : Rat}, FB 1200 x → FB 8900 x := fun h => h.mono (by decide)
  rcases hi with rfl | rfl
  · exact ⟨_, rfl, _, rfl, p, _, _, _, rfl, rfl, hp, rfl, _, rfl, _, rfl, _, _, rfl, rfl, p, _, _, _, rfl, rfl, hp, rfl, _, _, _, _, rfl, g0, me d0, g2, md d2, fun r H1 s1 g => q r H1 s1 g⟩
  · exact ⟨_, rfl, _, rfl, p, _, _, _, rfl, rfl, hp, rfl, _, rfl, _, rfl, _, _, rfl, rfl, p, _, _, _, rfl, rfl, hp, rfl, _, _, _, _, rfl, g1, me d1, g3, md d3, fun r H1 s1 g => q r H1 s1 g⟩
def spHic (K : PySem.W.Frag) : Sp := fun vs H Q _ => ∃ z k y l i, vs = [z, y, .int i] ∧ BxS K H z k ∧ BxS K H y l ∧ (i = 0 ∨ i = 1) ∧ ∀ H', Same H H' → Q (.bl (if i = 0 then hicQ k.x k.w l.x l.w else hicQ k.y k.h l.y l.h)) H'
theorem sc_have_in_common : FnScope ["one", "other", "way"] ["one", "other", "way"] (defScope (top 21)) := ⟨rfl, rfl, rfl, by decide +kernel, rfl, by decide +kernel, by decide +kernel⟩
theorem ok_have_in_common (D : Df K mg "have_in_common" (top 21) ["one", "other", "way"]) (T : Tx K mg) (F_under : Fn P w K mg base 1 "under" ["one", "other"] (sp_under K)) (F_far_side : Fn P w K mg base 3 "far_side" ["box", "way"] (spFar K)) : Fn P w K mg base 4 "have_in_common" ["one", "other", "way"] (spHic K) := by
  refine D.ok0 sc_have_in_common (fun vs H Q E h => ?_) (fun f cdv A outer s H vs Q E hr h => ?_)
  · obtain ⟨z, k, y, l, i, rfl, _⟩ := h
    rfl
  obtain ⟨z, k, y, l, i, rfl, hz, hy, hi, q⟩ := h
  refine ⟨_, (pss_one (ps_ret (pe_and (pe_fn F_under (by decide) hr (by rfl) passE0 (pa_cons (pe_ix ix_tup (pv 0) (pv 2) (fun _ _ => rfl)) (pa_cons (pe_fn F_far_side (by decide) hr (by rfl) passE0 (pa_cons (pv 1) (pa_cons (pv 2) pa_nil))) pa_nil))) (pe_one (pe_fn F_under (by decide) hr (by rfl) passE0 (pa_cons (pe_ix ix_tup (pv 1) (pv 2) (fun _ _ => rfl)) (pa_cons (pe_fn F_far_side (by decide) hr (by rfl) passE0 (pa_cons (pv 0) (pa_cons (pv 2) pa_nil))) pa_nil))))))), ?_⟩
  obtain ⟨p, a0, a1, a2, a3, v4, v5, v6, rfl, hp, ⟨g0, g1, g2, g3⟩, ⟨d0, d1, d2, d3⟩, w0, w1⟩ := id hz
  obtain ⟨r, b0, b1, b2, b3, u4, u5, u6, rfl, hr1, ⟨k0, k1, k2, k3⟩, ⟨f0, f1, f2, f3⟩, w2, w3⟩ := id hy
  have me : ∀ {x : Rat}, FB 1200 x → FB 8900 x := fun h => h.mono (by decide)
  have ms : ∀ {x y : Rat}, FB 1200 x → FB 1200 y → FB 8900 (x + y) := fun h g => (h.add g).mono (by decide)
  rcases hi with rfl | rfl
  · refine ⟨_, rfl, _, rfl, p, _, _, _, rfl, rfl, hp, rfl, _, rfl, _, rfl, _, l, _, rfl, hy, .inl rfl, fun r1 H1 s1 e1 => ?_⟩
    rw [if_pos rfl] at e1
    refine ⟨_, _, _, _, rfl, Kw.Same.tup s1 g0, me d0, e1, ms f0 f2, fun H2 s2 => ⟨_, rfl, ?_⟩⟩
    have s12 := s1.trans s2
    refine if_dec (fun c => ?_) (fun c => ?_)
    · refine ⟨_, rfl, _, rfl, r, _, _, _, rfl, rfl, Kw.Same.tup s12 hr1, rfl, _, rfl, _, rfl, _, k, _, rfl, hz.same s12, .inl rfl, fun r3 H3 s3 e3 => ?_⟩
      rw [if_pos rfl] at e3
      refine ⟨_, _, _, _, rfl, Kw.Same.tup (s12.trans s3) k0, me f0, e3, ms d0 d2, fun H4 s4 => ?_⟩
      have z := q H4 (s12.trans (s3.trans s4))
      rw [if_pos rfl] at z
      unfold hicQ at z
      rw [decide_eq_true c, Bool.true_and] at z
      exact z
    · have z := q H2 s12
      rw [if_pos rfl] at z
      unfold hicQ at z
      rw [decide_eq_false c, Bool.false_and] at z
      exact z
  · refine ⟨_, rfl, _, rfl, p, _, _, _, rfl, rfl, hp, rfl, _, rfl, _, rfl, _, l, _, rfl, hy, .inr rfl, fun r1 H1 s1 e1 => ?_⟩
    rw [if_neg (by decide)] at e1
    refine ⟨_, _, _, _, rfl, Kw.Same.tup s1 g1, me d1, e1, ms f1 f3, fun H2 s2 => ⟨_, rfl, ?_⟩⟩
    have s12 := s1.trans s2
    refine if_dec (fun c => ?_) (fun c => ?_)
    · refine ⟨_, rfl, _, rfl, r, _, _, _, rfl, rfl, Kw.Same.tup s12 hr1, rfl, _, rfl, _, rfl, _, k, _, rfl, hz.same s12, .inr rfl, fun r3 H3 s3 e3 => ?_⟩
      rw [if_neg (by decide)] at e3
      refine ⟨_, _, _, _, rfl, Kw.Same.tup (s12.trans s3) k1, me f1, e3, ms d1 d3, fun H4 s4 => ?_⟩
      have z := q H4 (s12.trans (s3.trans s4))
      rw [if_neg (by decide)] at z
      unfold hicQ at z
      rw [decide_eq_true c, Bool.true_and] at z
      exact z
    · have z := q H2 s12
      rw [if_neg (by decide)] at z
      unfold hicQ at z
      rw [decide_eq_false c, Bool.false_and] at z
      exact z
def spOv (K : PySem.W.Frag) : Sp := fun vs H Q _ => ∃ z k y l c, vs = [z, y] ∧ BxS K H z k ∧ BxS K H y l ∧ ovQ k l = c ∧ ∀ H', Same H H' → Q (.bl c) H'
theorem sc_overlap : FnScope ["one", "other"] ["one", "other"] (defScope (top 22)) := ⟨rfl, rfl, rfl, by decide +kernel, rfl, by decide +kernel, by decide +kernel⟩
theorem ok_overlap (D : Df K mg "overlap" (top 22) ["one", "other"]) (T : Tx K mg) (F_have_in_common : Fn P w K mg base 4 "have_in_common" ["one", "other", "way"] (spHic K)) : Fn P w K mg base 5 "overlap" ["one", "other"] (spOv K) := by
  refine D.ok0 sc_overlap (fun vs H Q E h => ?_) (fun f cdv A outer s H vs Q E hr h => ?_)
  · obtain ⟨z, k, y, l, c, rfl, _⟩ := h
    rfl
  obtain ⟨z, k, y, l, c, rfl, hz, hy, rfl, q⟩ := h
  refine ⟨_, (pss_one (ps_ret (pe_and (pe_fn F_have_in_common (by decide) hr (by rfl) passE0 (pa_cons (pv 0) (pa_cons (pv 1) (pa_cons (pe_globI (by rfl) T.k_ACROSS) pa_nil)))) (pe_one (pe_fn F_have_in_common (by decide) hr (by rfl) passE0 (pa_cons (pv 0) (pa_cons (pv 1) (pa_cons (pe_globI (by rfl) T.k_ALONG) pa_nil)))))))), ?_⟩
  refine ⟨_, rfl, _, rfl, z, k, y, l, 0, rfl, hz, hy, .inl rfl, fun H1 s1 => ⟨_, rfl, ?_⟩⟩
  unfold ovQ at q
  rw [if_pos rfl]
  generalize hicQ k.x k.w l.x l.w = c0 at q ⊢
  cases c0 with
  | false => exact iteF (q _ s1)
  | true =>
    refine iteT ⟨_, rfl, _, rfl, z, k, y, l, 1, rfl, hz.same s1, hy.same s1, .inr rfl, fun H2 s2 => ?_⟩
    rw [if_neg (by decide)]
    exact q _ (s1.trans s2)
theorem sc_law_cell : FnScope ["script", "k"] ["script", "k"] (defScope (top 24)) := ⟨rfl, rfl, rfl, by decide +kernel, rfl, by decide +kernel, by decide +kernel⟩
theorem ok_law_cell (D : Df K mg "_law_cell" (top 24) ["script", "k"]) (T : Tx K mg) : Fn P w K mg base 1 "_law_cell" ["script", "k"] (spCell K) := by
  refine D.ok0 sc_law_cell (fun vs H Q E h => ?_) (fun f cdv A outer s H vs Q E hr h => ?_)
  · obtain ⟨a, k, rfl, _⟩ := h
    rfl
  obtain ⟨a, k, rfl, ⟨ns, hS, h63, hbd⟩, k0, k1, q⟩ := h
  refine ⟨_, (pss_cons (ps_if (pt_cmpR op_lt (pv 1) (pe_callB call_len (by rfl) T.b_len PyProof.Rows.Boot.«len» (pa_cons (pv 0) pa_nil)) (nomark _)) (pss_one (ps_ret (pe_ix ix_list (pv 0) (pv 1) (fun _ _ => rfl)))) pss_nil)
      (pss_one (ps_ret (pe_op op_add (pe_op op_mulB pe_int (pv 1)) pe_int)))), ?_⟩
  refine ⟨_, rfl, _, rfl, _, _, rfl, .inl ⟨_, hS, rfl⟩, _, _, rfl, rfl, _, rfl, ?_⟩
  refine if_dec (fun c => ?_) (fun c => ?_)
  · rw [List.length_map] at c
    have hk : k.toNat < ns.length := by omega
    have ek : k = ((k.toNat : Nat) : Int) := by omega
    have z : atI (ns.map V.int) ((k.toNat : Nat) : Int) = some (.int ns[k.toNat]) := atI_nat (by rw [List.getElem?_map, List.getElem?_eq_getElem hk] <;> rfl)
    rw [← ek] at z
    exact ⟨_, rfl, _, rfl, a, _, _, _, rfl, rfl, hS, z, q _ (hbd _ (List.getElem_mem hk))⟩
  · refine ⟨_, rfl, _, _, rfl, rfl, mulOk_smallL (by decide) (by decide), _, _, rfl, rfl, q _ ?_⟩
    exact (Bd.small (by omega) (by omega)).mono (by decide)
theorem sc_law_mix : FnScope ["cell", "k", "number"] ["cell", "k"] (defScope (top 25)) := ⟨rfl, rfl, rfl, by decide +kernel, rfl, by decide +kernel, by decide +kernel⟩
theorem ok_law_mix (D : Df K mg "_law_mix" (top 25) ["cell", "k"]) (T : Tx K mg) : Fn P w K mg base 1 "_law_mix" ["cell", "k"] spMix := by
  refine D.ok0 sc_law_mix (fun vs H Q E h => ?_) (fun f cdv A outer s H vs Q E hr h => ?_)
  · obtain ⟨c, k, rfl, _⟩ := h
    rfl
  obtain ⟨c, k, rfl, hc, k0, k1, q⟩ := h
  refine ⟨_, (pss_cons (ps_set (i := 2) sc_law_mix.nd rfl (Or.inl rfl) (pe_op op_add (pe_op op_mulB (pe_op op_add (pv 0) pe_int) pe_int) (pe_op op_mulB pe_int (pv 1))))
      (pss_cons (ps_set (i := 2) sc_law_mix.nd rfl (Or.inl rfl) (pe_op op_add (pe_op op_mod (pe_op op_mulB (pv 2) (pv 2)) pe_int) (pv 1)))
      (pss_one (ps_ret (pe_op op_mod (pe_op op_mulB (pv 2) (pe_op op_add (pv 2) pe_int)) pe_int))))), ?_⟩
  have s1 : ∀ i : Int, -(2 ^ 64) < i → i < 2 ^ 64 → Bd 1048576 i := fun i h1 h2 => (Bd.small h1 h2).mono (by decide)
  have b1 : Bd 1048641 ((c + 1) * 40692) := ((hc.add (s1 1 (by decide) (by decide))).mul (Bd.small (i := 40692) (by decide) (by decide))).mono (by decide)
  have b2 : Bd 1048642 ((c + 1) * 40692 + 104729 * k) := (b1.add ((Bd.small (by omega) (by omega)).mono (by decide))).mono (by decide)
  refine ⟨_, rfl, _, _, rfl, rfl, _, _, rfl, rfl, mulOk_small (by decide) (by decide), _, rfl, _, _, rfl, rfl, mulOk_smallL (by decide) (by decide), _, _, rfl, rfl, ?_⟩
  refine ⟨_, rfl, _, rfl, _, _, rfl, rfl, b2.ok b2 (by decide), _, _, rfl, rfl, (by show (0 : Int) < 2147483399; decide), _, rfl, _, _, rfl, rfl, ?_⟩
  have e0 := Int.emod_nonneg (((c + 1) * 40692 + 104729 * k) * ((c + 1) * 40692 + 104729 * k)) (show (2147483399 : Int) ≠ 0 by decide)
  have e1 := Int.emod_lt_of_pos (((c + 1) * 40692 + 104729 * k) * ((c + 1) * 40692 + 104729 * k)) (show (0 : Int) < 2147483399 by decide)
  exact ⟨_, rfl, _, rfl, _, _, rfl, rfl, _, _, rfl, rfl, mulOk_smallL (by omega) (by omega), _, _, rfl, rfl, (by show (0 : Int) < 2147483563; decide), q _⟩
theorem sc_law_box : FnScope ["script", "k", "here", "number", "j"] ["script", "k"] (defScope (top 26)) := ⟨rfl, rfl, rfl, by decide +kernel, rfl, by decide +kernel, by decide +kernel⟩
theorem ok_law_box (D : Df K mg "_law_box" (top 26) ["script", "k"]) (T : Tx K mg) (F_law_cell : Fn P w K mg base 1 "_law_cell" ["script", "k"] (spCell K)) (F_law_mix : Fn P w K mg base 1 "_law_mix" ["cell", "k"] spMix) :
    Fn P w K mg base 2 "_law_box" ["script", "k"] (spBox K) := by
  refine D.ok0 sc_law_box (fun vs H Q E h => ?_) (fun f cdv A outer s H vs Q E hr h => ?_)
  · obtain ⟨a, k, rfl, _⟩ := h
    rfl
  obtain ⟨a, k, rfl, hS, k0, k1, q⟩ := h
  refine ⟨_, (pss_cons (ps_set (i := 2) sc_law_box.nd rfl (Or.inl rfl) (pe_fn F_law_cell (by decide) hr (by rfl) passE0 (pa_cons (pv 0) (pa_cons (pv 1) pa_nil))))
      (pss_cons (ps_if (pt_cmpR op_eq (pe_op op_mod (pv 2) pe_int) pe_int (nomark _)) (pss_one (ps_ret (pe_lst (pa_cons (pe_op op_fdivB (pv 2) pe_int) pa_nil)))) pss_nil)
      (pss_cons (ps_set (i := 3) sc_law_box.nd rfl (Or.inl rfl) pe_int)
      (pss_cons (ps_for PassesOwn.never rfl (pi_range1 (by rfl) T.b_range (pa_cons pe_int pa_nil)) (pg_name (i := 4) sc_law_box.nd rfl (Or.inl rfl)) (pss_one (ps_set (i := 3) sc_law_box.nd rfl (Or.inl rfl) (pe_op op_add (pe_op op_mulB (pv 3) pe_int) (pe_fn F_law_mix (by decide) hr (by rfl) passE0 (pa_cons (pv 2) (pa_cons (pv 4) pa_nil)))))))
      (pss_one (ps_ret (pe_lst (pa_cons (pv 3) pa_nil)))))))), ?_⟩
  refine ⟨_, rfl, _, rfl, a, k, rfl, hS, k0, k1, fun c hc => ?_⟩
  refine ⟨_, rfl, _, _, rfl, rfl, (by show (0 : Int) < 2; decide), rfl, _, rfl, ?_⟩
  refine if_decI (fun z => ?_) (fun z => ?_)
  · refine ⟨_, rfl, _, _, rfl, rfl, ⟨by decide, by decide +kernel⟩, (by show 1 ≤ sizeLine; decide), fun p hp => ?_⟩
    exact q p _ _ hp (same_new hp _) upd_same
  refine ⟨_, rfl, by decide, by decide, for_range (n := 16) (fun i σ' H' => ∃ (n : Int) (r : Option V), σ' = [some (.ref a), some (.int k), some (.int c), some (.int n), r] ∧ H' = H) ⟨_, _, rfl, rfl⟩ ?_ ?_⟩
  · rintro i σ' H' hi ⟨n, r, rfl, rfl⟩
    refine ⟨_, rfl, _, _, rfl, rfl, mulOk_small (by decide) (by decide), _, rfl, _, rfl, c, _, rfl, hc, by omega, by omega, fun m => ?_⟩
    exact ⟨_, _, rfl, rfl, _, _, rfl, rfl⟩
  · rintro σ' H' ⟨n, r, rfl, rfl⟩
    refine ⟨_, rfl, (by show 1 ≤ sizeLine; decide), fun p hp => ?_⟩
    exact q p _ _ hp (same_new hp _) upd_same
theorem sc_law_take : FnScope ["box", "many", "left", "digit"] ["box", "many"] (defScope (top 27)) := ⟨rfl, rfl, rfl, by decide +kernel, rfl, by decide +kernel, by decide +kernel⟩
theorem ok_law_take (D : Df K mg "_law_take" (top 27) ["box", "many"]) (T : Tx K mg) : Fn P w K mg base 1 "_law_take" ["box", "many"] spTake := by
  refine D.ok0 sc_law_take (fun vs H Q E h => ?_) (fun f cdv A outer s H vs Q E hr h => ?_)
  · obtain ⟨b, m, n, rfl, _⟩ := h
    rfl
  obtain ⟨b, m, n, rfl, hb, m0, hm, q⟩ := h
  refine ⟨_, (pss_cons (ps_asg (pe_callB call_divmodB (by rfl) T.b_divmod PyProof.Rows.Boot.«divmod» (pa_cons (pe_ix ix_list (pv 0) pe_int (fun _ _ => rfl)) (pa_cons (pv 1) pa_nil))) (pg_tup rfl (pgs_cons (pg_name (i := 2) sc_law_take.nd rfl (Or.inl rfl)) (pgs_cons (pg_name (i := 3) sc_law_take.nd rfl (Or.inl rfl)) pgs_nil))))
      (pss_cons (ps_asg (pv 2) (pg_sub (pv 0) pe_int set_list))
      (pss_one (ps_ret (pv 3))))), ?_⟩
  refine ⟨_, rfl, b, _, _, _, rfl, rfl, SqL.of hb, rfl, _, rfl, n, m, rfl, ⟨m0, hm.log⟩, ?_⟩
  intro p hp0
  have sm := same_new hp0 (.tup [.int (n / m), .int (n % m)])
  have hp : upd H p (.tup [.int (n / m), .int (n % m)]) p = some (.tup [.int (n / m), .int (n % m)]) := upd_same
  refine ⟨p, _, rfl, SqT.of hp, rfl, _, _, rfl, _, _, rfl, rfl, ?_⟩
  refine ⟨_, rfl, _, rfl, b, _, _, 0, rfl, rfl, sm _ _ hb, rfl, _, rfl, ?_⟩
  have d0 := Int.emod_nonneg n (show m ≠ 0 by omega)
  have d1 := Int.emod_lt_of_pos n m0
  exact q (n % m) (n / m) _ d0 d1 ((But.of sm).trans (but_upd _)) upd_same
theorem sc_law_fit : FnScope ["top", "bottom", "one", "other"] ["top", "bottom"] (defScope (top 28)) := ⟨rfl, rfl, rfl, by decide +kernel, rfl, by decide +kernel, by decide +kernel⟩
theorem ok_law_fit0 (D : Df K mg "_law_fit" (top 28) ["top", "bottom"]) (T : Tx K mg) : Fn P w K mg base 1 "_law_fit" ["top", "bottom"] spFit := by
  refine D.ok0 sc_law_fit (fun vs H Q E h => ?_) (fun f cdv A outer s H vs Q E hr h => ?_)
  · obtain ⟨a, b, rfl, _⟩ := h
    rfl
  obtain ⟨a, b, rfl, c, hb, hq⟩ := h
  refine ⟨_, (pss_cons (ps_par (i := 2) (j := 3) rfl sc_law_fit.nd rfl rfl (by decide) rfl rfl (pa_cons (pe_callB call_abs (by rfl) T.b_abs PyProof.Rows.Boot.«abs» (pa_cons (pv 0) pa_nil)) (pa_cons (pe_callB call_abs (by rfl) T.b_abs PyProof.Rows.Boot.«abs» (pa_cons (pv 1) pa_nil)) pa_nil)) rfl)
      (pss_cons (ps_while PassesOwn.never (pt_cmpR op_gt (pv 3) pe_int (nomark _)) (pss_one (ps_par (i := 2) (j := 3) rfl sc_law_fit.nd rfl rfl (by decide) rfl rfl (pa_cons (pv 3) (pa_cons (pe_op op_mod (pv 2) (pv 3)) pa_nil)) rfl)))
      (pss_cons (ps_if (pt_cmpR op_lt (pv 1) pe_int (nomark _)) (pss_one (ps_set (i := 2) sc_law_fit.nd rfl (Or.inl rfl) (pe_op op_sub pe_int (pv 2)))) pss_nil)
      (pss_one (ps_ret (pe_tup (pa_cons (pe_op op_fdivB (pv 0) (pv 2)) (pa_cons (pe_op op_fdivB (pv 1) (pv 2)) pa_nil)))))))), ?_⟩
  refine ⟨_, rfl, _, rfl, _, rfl, _, rfl, _, _, rfl, ?_⟩
  refine ⟨fun m σ' H' => ∃ g s : Int, σ' = [some (.int a), some (.int b), some (.int g), some (.int s)] ∧ H' = H ∧ 0 ≤ g ∧ 0 ≤ s ∧ m = s.toNat ∧ Int.gcd g s = Int.gcd a b, ⟨_, _, _, rfl, rfl, abs_nn a, abs_nn b, rfl, gcd_abs a b⟩, ?_⟩
  rintro m σ' H' ⟨g, s, rfl, rfl, hg, hs, rfl, e⟩
  refine ⟨_, rfl, _, _, rfl, rfl, _, rfl, ?_⟩
  refine if_dec (fun c => ?_) (fun z => ?_)
  · refine ⟨_, fun _ _ n => n, ?_⟩
    refine ⟨_, rfl, _, rfl, _, rfl, _, _, rfl, rfl, c, _, _, rfl, ?_⟩
    have l := Int.emod_lt_of_pos g c
    have l0 := Int.emod_nonneg g (show s ≠ 0 by omega)
    exact ⟨_, by omega, s, g % s, rfl, rfl, by omega, l0, rfl, (gcd_step g s hg c).trans e⟩
  · have s0 : s = 0 := by omega
    subst s0
    have z := gcd_end g hg
    rw [e] at z
    subst z
    have hd : (if b < 0 then -((Int.gcd a b : Nat) : Int) else ((Int.gcd a b : Nat) : Int)) = dv a b := rfl
    have lg := (bd_dv (t := a) c hb).log
    refine ⟨_, rfl, _, _, rfl, rfl, _, rfl, ?_⟩
    refine if_dec (fun n => ?_) (fun n => ?_)
    · rw [if_pos n] at hd
      refine ⟨_, rfl, _, _, rfl, rfl, ?_⟩
      dsimp only
      rw [show (0 : Int) - ((Int.gcd a b : Nat) : Int) = dv a b by rw [← hd]; omega]
      refine ⟨_, rfl, _, rfl, _, _, rfl, rfl, ⟨dv_ne c, lg⟩, _, rfl, _, rfl, _, _, rfl, rfl, ⟨dv_ne c, lg⟩, by show 2 ≤ sizeLine; decide, ?_⟩
      exact rd_new fun p H' sm hp => hq p H' sm hp
    · rw [if_neg n] at hd
      rw [hd]
      refine ⟨_, rfl, _, rfl, _, _, rfl, rfl, ⟨dv_ne c, lg⟩, _, rfl, _, rfl, _, _, rfl, rfl, ⟨dv_ne c, lg⟩, by show 2 ≤ sizeLine; decide, ?_⟩
      exact rd_new fun p H' sm hp => hq p H' sm hp
def sp_law_fit (K : PySem.W.Frag) : Sp := fun vs H Q _ => ∃ (a : Int) (b : Int), vs = [.int a, .int b] ∧ Bd 9000 b ∧ b ≠ 0 ∧ (∀ (p_r : Addr) (H1 : Hp), Same H H1 → FH H1 p_r (Rat.divInt a b) → Q (.ref p_r) H1)
theorem ok_law_fit (D : Df K mg "_law_fit" (top 28) ["top", "bottom"]) (T : Tx K mg) : Fn P w K mg base 1 "_law_fit" ["top", "bottom"] (sp_law_fit K) :=
  (ok_law_fit0 D T).imp fun vs H Q E h => by
    obtain ⟨a, b, rfl, hb, b0, k⟩ := h
    exact ⟨a, b, rfl, b0, hb, fun p H' s e => k p H' s (FH.fit b0 e)⟩
def sp_law_plus (K : PySem.W.Frag) : Sp := fun vs H Q _ => ∃ (p_x : Addr) (x : Rat) (p_y : Addr) (y : Rat), vs = [.ref p_x, .ref p_y] ∧ FQ K H p_x x ∧ FB 4400 x ∧ FQ K H p_y y ∧ FB 4400 y ∧ (∀ (p_r : Addr) (H1 : Hp), Same H H1 → FQ K H1 p_r (x + y) → Q (.ref p_r) H1)
theorem sc_law_plus : FnScope ["one", "other"] ["one", "other"] (defScope (top 29)) := ⟨rfl, rfl, rfl, by decide +kernel, rfl, by decide +kernel, by decide +kernel⟩
theorem ok_law_plus (D : Df K mg "_law_plus" (top 29) ["one", "other"]) (T : Tx K mg) (F_law_fit : Fn P w K mg base 1 "_law_fit" ["top", "bottom"] (sp_law_fit K)) : Fn P w K mg base 2 "_law_plus" ["one", "other"] (sp_law_plus K) := by
  refine D.ok0 sc_law_plus (fun vs H Q E h => ?_) (fun f cdv A outer s H vs Q E hr h => ?_)
  · obtain ⟨p, x, q, y, rfl, _⟩ := h
    rfl
  obtain ⟨p, x, q, y, rfl, hp, ⟨ha, hb⟩, hq, ⟨hc, hd⟩, k⟩ := h
  refine ⟨_, (pss_one (ps_ret (pe_fn F_law_fit (by decide) hr (by rfl) passE0 (pa_cons (pe_op op_add (pe_op op_mulB (pe_ix ix_tup (pv 0) pe_int (fun _ _ => rfl)) (pe_ix ix_tup (pv 1) pe_int (fun _ _ => rfl))) (pe_op op_mulB (pe_ix ix_tup (pv 1) pe_int (fun _ _ => rfl)) (pe_ix ix_tup (pv 0) pe_int (fun _ _ => rfl)))) (pa_cons (pe_op op_mulB (pe_ix ix_tup (pv 0) pe_int (fun _ _ => rfl)) (pe_ix ix_tup (pv 1) pe_int (fun _ _ => rfl))) pa_nil))))), ?_⟩
  refine ⟨_, rfl, p, _, _, _, rfl, rfl, hp, rfl, _, rfl, q, _, _, _, rfl, rfl, hq, rfl, _, _, rfl, rfl, ha.ok hd (by decide), _, rfl, q, _, _, _, rfl, rfl, hq, rfl, _, rfl, p, _, _, _, rfl, rfl, hp, rfl, _, _, rfl, rfl, hc.ok hb (by decide), _, _, rfl, rfl, _, rfl, p, _, _, _, rfl, rfl, hp, rfl, _, rfl, q, _, _, _, rfl, rfl, hq, rfl, _, _, rfl, rfl, hb.ok hd (by decide), ?_⟩
  exact ⟨_, _, rfl, (hb.mul hd).mono (by decide), Int.mul_ne_zero (q_ne x) (q_ne y), fun r H1 s1 g1 => k r H1 s1 (FQ.cast g1.fq (q_add x y))⟩
def sp_law_less (K : PySem.W.Frag) : Sp := fun vs H Q _ => ∃ (p_x : Addr) (x : Rat) (p_y : Addr) (y : Rat), vs = [.ref p_x, .ref p_y] ∧ FQ K H p_x x ∧ FB 60000 x ∧ FQ K H p_y y ∧ FB 60000 y ∧ (∀  (H1 : Hp), Same H H1 → Q (.bl (decide (x < y))) H1)
theorem sc_law_less : FnScope ["one", "other"] ["one", "other"] (defScope (top 30)) := ⟨rfl, rfl, rfl, by decide +kernel, rfl, by decide +kernel, by decide +kernel⟩
theorem ok_law_less (D : Df K mg "_law_less" (top 30) ["one", "other"]) (T : Tx K mg) : Fn P w K mg base 1 "_law_less" ["one", "other"] (sp_law_less K) := by
  refine D.ok0 sc_law_less (fun vs H Q E h => ?_) (fun f cdv A outer s H vs Q E hr h => ?_)
  · obtain ⟨p_x, x, p_y, y, rfl, _⟩ := h
    rfl
  obtain ⟨p_x, x, p_y, y, rfl, g_x, d_x, g_y, d_y, k0⟩ := h
  refine ⟨_, (pss_one (ps_ret (pe_cmpR op_lt (pe_op op_mulB (pe_ix ix_tup (pv 0) pe_int (fun _ _ => rfl)) (pe_ix ix_tup (pv 1) pe_int (fun _ _ => rfl))) (pe_op op_mulB (pe_ix ix_tup (pv 1) pe_int (fun _ _ => rfl)) (pe_ix ix_tup (pv 0) pe_int (fun _ _ => rfl))) (nomark _)))), ?_⟩
  refine ⟨_, rfl, p_x, _, _, _, rfl, rfl, g_x, rfl, _, rfl, p_y, _, _, _, rfl, rfl, g_y, rfl, _, _, rfl, rfl, (d_x.1.ok d_y.2 (by decide)), _, rfl, p_y, _, _, _, rfl, rfl, g_y, rfl, _, rfl, p_x, _, _, _, rfl, rfl, g_x, rfl, _, _, rfl, rfl, (d_y.1.ok d_x.2 (by decide)), _, _, rfl, rfl, ?_⟩
  try dsimp only
  rw [show decide (((x).num * (((y).den : Nat) : Int)) < ((y).num * (((x).den : Nat) : Int))) = decide (x < y) from decide_eq_decide.mpr (by exact (q_lt x y).symm)]
  exact k0 _ (Same.refl _)
theorem sc_law_whole : FnScope ["thing"] ["thing"] (defScope (top 31)) := ⟨rfl, rfl, rfl, by decide +kernel, rfl, by decide +kernel, by decide +kernel⟩
theorem ok_law_whole (D : Df K mg "_law_whole" (top 31) ["thing"]) (T : Tx K mg) : Fn P w K mg base 1 "_law_whole" ["thing"] (spWhole K) := by
  refine D.ok0 sc_law_whole (fun vs H Q E h => ?_) (fun f cdv A outer s H vs Q E hr h => ?_)
  · obtain ⟨x, t, b1, b2, rfl, _⟩ := h
    rfl
  obtain ⟨x, t, b1, b2, rfl, ty, k1, k2, q⟩ := h
  refine ⟨_, (pss_one (ps_ret (pe_and (pe_callB call_isinst (by rfl) T.b_isinstance PyProof.Rows.Boot.«isinstance» (pa_cons (pv 0) (pa_cons (pe_bty (by rfl) T.b_int PyProof.Rows.Boot.«int») pa_nil))) (pe_one (pe_not (pe_callB call_isinst (by rfl) T.b_isinstance PyProof.Rows.Boot.«isinstance» (pa_cons (pv 0) (pa_cons (pe_bty (by rfl) T.b_bool PyProof.Rows.Boot.«bool») pa_nil)))))))), ?_⟩
  refine ⟨_, rfl, x, _, b1, rfl, .inl ⟨_, rfl⟩, ⟨t, ty, k1⟩, b1, rfl, ?_⟩
  cases b1 with
  | false => exact iteF q
  | true => exact iteT ⟨_, rfl, x, _, b2, rfl, .inl ⟨_, rfl⟩, ⟨t, ty, k2⟩, b2, rfl, q⟩
def spOdd : Sp := fun vs H Q _ => ∃ b n, vs = [.ref b] ∧ H b = some (.lst [.int n]) ∧ ∀ v c H' n', But b H H' → H' b = some (.lst [.int n']) → Odd H' v c → (∀ p, v = .ref p → p ≠ b) → Q v H'
theorem sc_law_odd : FnScope ["box"] ["box"] (defScope (top 33)) := ⟨rfl, rfl, rfl, by decide +kernel, rfl, by decide +kernel, by decide +kernel⟩
theorem ok_law_odd (D : Df K mg "_law_odd" (top 33) ["box"]) (T : Tx K mg) (F_law_take : Fn P w K mg base 1 "_law_take" ["box", "many"] spTake) : Fn P w K mg base 2 "_law_odd" ["box"] spOdd := by
  refine D.ok0 sc_law_odd (fun vs H Q E h => ?_) (fun f cdv A outer s H vs Q E hr h => ?_)
  · obtain ⟨b, n, rfl, _⟩ := h
    rfl
  obtain ⟨b, n, rfl, hb, q⟩ := h
  refine ⟨_, @odd_term _ _ _ _ _ _ _ _ _ _ _ _ _ _ _ _ _ _ _ _ _ _ _ _ _ _ _ _ _ (@pe_d1 _ _ _ _ _ _ pe_str pe_int) (fun _ => rfl) (pe_fn F_law_take (by decide) hr (by rfl) passE0 (pa_cons (pv 0) (pa_cons pe_int pa_nil))) (fun _ _ => rfl), ?_⟩
  refine ⟨by show 2 ≤ sizeLine; decide, ?_⟩
  intro p5 n5
  obtain ⟨H5, q5, s5, e5⟩ := newO n5 (.tup [.int 1, .int 1])
  rw [q5]
  clear q5
  refine ⟨by show 1 ≤ sizeLine; decide, ?_⟩
  intro p6 n6
  obtain ⟨H6, q6, s6, e6⟩ := newO n6 (.lst [.int 1])
  rw [q6]
  clear q6
  intro p7 n7
  obtain ⟨H7, q7, s7, e7⟩ := newO n7 (.dK [(.inr "a", .int 1)])
  rw [q7]
  clear q7
  refine ⟨by show 0 ≤ sizeLine; decide, ?_⟩
  intro p8 n8
  obtain ⟨H8, q8, s8, e8⟩ := newO n8 (.tup [])
  rw [q8]
  clear q8
  refine ⟨by show 9 ≤ sizeLine; decide, ?_⟩
  intro p9 n9
  obtain ⟨H9, q9, s9, e9⟩ := newO n9 (.lst [.non, .bl true, .bl false, .str "1", .str "", .ref p5, .ref p6, .ref p7, .ref p8])
  rw [q9]
  clear q9
  have hb5 := s5 _ _ hb
  have hb6 := s6 _ _ hb5
  have hb7 := s7 _ _ hb6
  have hb8 := s8 _ _ hb7
  have hb9 := s9 _ _ hb8
  refine ⟨_, rfl, b, 9, n, rfl, hb9, by decide, (Bd.small (by decide) (by decide)).mono (by decide), fun d n' H' d0 d1 s' hb' => ?_⟩
  have nl : p9 ≠ b := Ne.symm (ne_of_none hb8 n9)
  have n6' : p6 ≠ b := Ne.symm (ne_of_none hb5 n6)
  have n7' : p7 ≠ b := Ne.symm (ne_of_none hb6 n7)
  have el := s' _ _ nl e9
  have sH : But b H H' := (But.of (s5.trans (s6.trans (s7.trans (s8.trans s9))))).trans s'
  have f5 := s' _ _ (ne_of (s9 _ _ (s8 _ _ (s7 _ _ (s6 _ _ e5)))) hb9 (by intro z; cases z)) (s9 _ _ (s8 _ _ (s7 _ _ (s6 _ _ e5))))
  have f6 := s' _ _ n6' (s9 _ _ (s8 _ _ (s7 _ _ e6)))
  have f7 := s' _ _ n7' (s9 _ _ (s8 _ _ e7))
  have f8 := s' _ _ (ne_of (s9 _ _ e8) hb9 (by intro z; cases z)) (s9 _ _ e8)
  obtain ⟨k, rfl⟩ : ∃ k : Nat, d = (k : Int) := ⟨d.toNat, by omega⟩
  have kl : k < 9 := by omega
  have fin : ∀ v c, ([.non, .bl true, .bl false, .str "1", .str "", .ref p5, .ref p6, .ref p7, .ref p8] : List V)[k]? = some v → Odd H' v c → (∀ p, v = .ref p → p ≠ b) → rIxL K (.ref p9) (.int (k : Int)) H' Q := fun v c hv ho hn => ⟨p9, _, _, _, rfl, rfl, SqL.of el, atI_nat hv, q v c H' n' sH hb' ho hn⟩
  match k, kl with
  | 0, _ => exact fin _ _ rfl .non fun _ z => nomatch z
  | 1, _ => exact fin _ _ rfl (.bl true) fun _ z => nomatch z
  | 2, _ => exact fin _ _ rfl (.bl false) fun _ z => nomatch z
  | 3, _ => exact fin _ _ rfl .s1 fun _ z => nomatch z
  | 4, _ => exact fin _ _ rfl .s0 fun _ z => nomatch z
  | 5, _ => exact fin _ _ rfl (.one f5) fun _ z => by cases z; exact ne_of f5 hb' (by intro z; cases z)
  | 6, _ => exact fin _ _ rfl (.lst f6) fun _ z => by cases z; exact n6'
  | 7, _ => exact fin _ _ rfl (.dct f7) fun _ z => by cases z; exact n7'
  | 8, _ => exact fin _ _ rfl (.nil f8) fun _ z => by cases z; exact ne_of f8 hb' (by intro z; cases z)
def spLFrac (K : PySem.W.Frag) : Sp := fun vs H Q _ => ∃ x c, vs = [x] ∧ FracC K H x c ∧ ∀ H', Same H H' → Q (.bl c) H'
theorem sc_law_is_fraction : FnScope ["thing"] ["thing"] (defScope (top 32)) := ⟨rfl, rfl, rfl, by decide +kernel, rfl, by decide +kernel, by decide +kernel⟩
theorem ok_law_is_fraction (D : Df K mg "_law_is_fraction" (top 32) ["thing"]) (T : Tx K mg) (F_law_whole : Fn P w K mg base 1 "_law_whole" ["thing"] (spWhole K)) (F_law_fit : Fn P w K mg base 1 "_law_fit" ["top", "bottom"] (sp_law_fit K)) : Fn P w K mg base 2 "_law_is_fraction" ["thing"] (spLFrac K) := by
  refine D.ok0 sc_law_is_fraction (fun vs H Q E h => ?_) (fun f cdv A outer s H vs Q E hr h => ?_)
  · obtain ⟨x, c, rfl, _⟩ := h
    rfl
  obtain ⟨x, c, rfl, hf, q⟩ := h
  refine ⟨_, (pss_cons (ps_if (pw_or (pt_not (pt_val (pe_callB call_isinst (by rfl) T.b_isinstance PyProof.Rows.Boot.«isinstance» (pa_cons (pv 0) (pa_cons (pe_bty (by rfl) T.b_tuple PyProof.Rows.Boot.«tuple») pa_nil))) (fun _ => rfl))) (pw_or (pt_cmpR op_ne (pe_callB call_len (by rfl) T.b_len PyProof.Rows.Boot.«len» (pa_cons (pv 0) pa_nil)) pe_int (nomark _)) (pw_or (pt_not (pt_val (pe_fn F_law_whole (by decide) hr (by rfl) passE0 (pa_cons (pe_ix ix_tup (pv 0) pe_int (fun _ _ => rfl)) pa_nil)) (fun _ => rfl))) (pw_or1 (pt_not (pt_val (pe_fn F_law_whole (by decide) hr (by rfl) passE0 (pa_cons (pe_ix ix_tup (pv 0) pe_int (fun _ _ => rfl)) pa_nil)) (fun _ => rfl))))))).pt (pss_one (ps_ret pe_bl)) pss_nil)
      (pss_one (ps_ret (pe_and (pe_cmpR op_gt (pe_ix ix_tup (pv 0) pe_int (fun _ _ => rfl)) pe_int (nomark _)) (pe_one (pe_cmpR (op_eqTI hr.units0) (pe_fn F_law_fit (by decide) hr (by rfl) passE0 (pa_cons (pe_ix ix_tup (pv 0) pe_int (fun _ _ => rfl)) (pa_cons (pe_ix ix_tup (pv 0) pe_int (fun _ _ => rfl)) pa_nil))) (pv 0) (nomark _))))))), ?_⟩
  have q0 := q H (Same.refl H)
  rcases hf with ⟨rfl, t, ty, kt⟩ | ⟨rfl, p, xs, rfl, hp, hl⟩ | ⟨rfl, p, u, v, rfl, hp, hn⟩ | ⟨p, i, j, rfl, hp, bi, bj, rfl⟩
  · exact ⟨_, rfl, _, _, false, rfl, .inl ⟨_, rfl⟩, ⟨_, ty, kt⟩, _, rfl, iteT q0⟩
  · refine ⟨_, rfl, _, _, true, rfl, .inl ⟨_, rfl⟩, ⟨_, .tup hp, kit_tup_tup⟩, _, rfl, iteF ?_⟩
    refine ⟨_, rfl, _, _, rfl, .inr ⟨_, SqT.of hp, rfl⟩, rfl, _, rfl, ?_⟩
    refine if_neI (fun _ => q0) (fun z => ?_)
    exact absurd (show xs.length = 2 by omega) hl
  · refine ⟨_, rfl, _, _, true, rfl, .inl ⟨_, rfl⟩, ⟨_, .tup hp, kit_tup_tup⟩, _, rfl, iteF ?_⟩
    refine ⟨_, rfl, _, _, rfl, .inr ⟨_, SqT.of hp, rfl⟩, rfl, _, rfl, iteF ?_⟩
    rcases hn with ⟨t, b1, b2, ty, k1, k2, k3⟩ | ⟨⟨i, rfl⟩, t, b1, b2, ty, k1, k2, k3⟩
    · refine ⟨_, rfl, p, _, _, _, rfl, rfl, SqT.of hp, rfl, _, _, b1, b2, rfl, ty, k1, k2, _, rfl, ?_⟩
      rw [k3]
      exact iteT q0
    · refine ⟨_, rfl, p, _, _, _, rfl, rfl, SqT.of hp, rfl, _, _, true, false, rfl, .int i, kit_int_int, kit_int_bool, _, rfl, iteF ?_⟩
      refine ⟨_, rfl, p, _, _, _, rfl, rfl, SqT.of hp, rfl, _, _, b1, b2, rfl, ty, k1, k2, _, rfl, ?_⟩
      rw [k3]
      exact iteT q0
  · refine ⟨_, rfl, _, _, true, rfl, .inl ⟨_, rfl⟩, ⟨_, .tup hp, kit_tup_tup⟩, _, rfl, iteF ?_⟩
    refine ⟨_, rfl, _, _, rfl, .inr ⟨_, SqT.of hp, rfl⟩, rfl, _, rfl, iteF ?_⟩
    refine ⟨_, rfl, p, _, _, _, rfl, rfl, SqT.of hp, rfl, _, _, true, false, rfl, .int i, kit_int_int, kit_int_bool, _, rfl, iteF ?_⟩
    refine ⟨_, rfl, p, _, _, _, rfl, rfl, SqT.of hp, rfl, _, _, true, false, rfl, .int j, kit_int_int, kit_int_bool, _, rfl, iteF ?_⟩
    refine ⟨_, rfl, p, _, _, _, rfl, rfl, SqT.of hp, rfl, _, _, rfl, rfl, _, rfl, ?_⟩
    refine if_dec (fun c => ?_) (fun c => ?_)
    · have j0 : j ≠ 0 := by omega
      refine ⟨_, rfl, p, _, _, _, rfl, rfl, SqT.of hp, rfl, _, rfl, p, _, _, _, rfl, rfl, SqT.of hp, rfl, i, j, rfl, bj.mono (by decide), j0, fun p1 H1 s1 e1 => ?_⟩
      have e2 : H1 p1 = some (.tup [.int (fT i j), .int (fB i j)]) := by
        rw [(q_fit j0).1, (q_fit j0).2]
        exact e1
      refine ⟨_, rfl, p1, p, [fT i j, fB i j], [i, j], rfl, rfl, SqT.of e2, SqT.of (s1 _ _ hp), ?_⟩
      rw [low_iff (show 0 < j from c)]
      have q1 := q H1 s1
      rw [decide_eq_true (show 1 ≤ j from c), Bool.true_and] at q1
      exact q1
    · rw [decide_eq_false (show ¬ 1 ≤ j from c), Bool.false_and] at q0
      exact q0
theorem sc_law_box_due : FnScope ["thing"] ["thing"] (defScope (top 37)) := ⟨rfl, rfl, rfl, by decide +kernel, rfl, by decide +kernel, by decide +kernel⟩
theorem ok_law_box_due (D : Df K mg "_law_box_due" (top 37) ["thing"]) (T : Tx K mg) (F_law_is_fraction : Fn P w K mg base 2 "_law_is_fraction" ["thing"] (spLFrac K)) (F_law_whole : Fn P w K mg base 1 "_law_whole" ["thing"] (spWhole K)) : Fn P w K mg base 3 "_law_box_due" ["thing"] (spBoxC K) := by
  refine D.ok0 sc_law_box_due (fun vs H Q E h => ?_) (fun f cdv A outer s H vs Q E hr h => ?_)
  · obtain ⟨x, c, rfl, _⟩ := h
    rfl
  obtain ⟨x, c, rfl, hb, q⟩ := h
  refine ⟨_, (pss_cons (ps_if (@PW.pt _ _ _ (pw_or (pt_not (pt_val (pe_callB call_isinst (by rfl) T.b_isinstance PyProof.Rows.Boot.«isinstance» (pa_cons (pv 0) (pa_cons (pe_bty (by rfl) T.b_tuple PyProof.Rows.Boot.«tuple») pa_nil))) (fun _ => rfl))) (pw_or (pt_cmpR op_ne (pe_callB call_len (by rfl) T.b_len PyProof.Rows.Boot.«len» (pa_cons (pv 0) pa_nil)) pe_int (nomark _)) (pw_or1 (pt_not (pt_val (pe_callB (call_all (K := K) rfl rfl) (by rfl) T.b_all PyProof.Rows.Boot.«all» (pa_cons (@pe_lc _ _ _ _ _ _ _ _ _ _ [] [] rfl (pi_tup (pe_slice sl_tup (pv 0) po_none (po_some pe_int))) rfl (by decide) rfl (by decide) rfl (by decide) cap_none (fun _ _ h => nomatch h) (no_free rfl) (fun C z Hc fp => (pe_fn F_law_is_fraction (by decide) hr (by rfl) passE0 (pa_cons (pv 0) pa_nil))) (fun _ => rfl)) pa_nil)) (fun _ => rfl))))))) (pss_one (ps_ret pe_bl)) pss_nil)
      (pss_one (ps_ret (pe_and (pe_cmpR op_gt (pe_ix ix_tup (pe_ix ix_tup (pv 0) pe_int (fun _ _ => rfl)) pe_int (fun _ _ => rfl)) pe_int (nomark _)) (pe_and (pe_cmpR op_gt (pe_ix ix_tup (pe_ix ix_tup (pv 0) pe_int (fun _ _ => rfl)) pe_int (fun _ _ => rfl)) pe_int (nomark _)) (pe_and (pe_fn F_law_whole (by decide) hr (by rfl) passE0 (pa_cons (pe_ix ix_tup (pv 0) pe_int (fun _ _ => rfl)) pa_nil)) (pe_one (pe_chain op_le op_le pe_int (pe_ix ix_tup (pv 0) pe_int (fun _ _ => rfl)) pe_int)))))))), ?_⟩
  have q0 := q H (Same.refl H)
  rcases hb with ⟨rfl, t, ty, kt⟩ | ⟨rfl, p, xs, rfl, hp, hl⟩ | ⟨p, v0, v1, v2, v3, v4, v5, v6, c0, c1, c2, c3, c4, c5, c6, d2, d3, rfl, hp, f0, f1, f2, f3, f4, f5, f6, rfl⟩
  · exact ⟨_, rfl, _, _, false, rfl, .inl ⟨_, rfl⟩, ⟨_, ty, kt⟩, _, rfl, iteT q0⟩
  · refine ⟨_, rfl, _, _, true, rfl, .inl ⟨_, rfl⟩, ⟨_, .tup hp, kit_tup_tup⟩, _, rfl, iteF ?_⟩
    refine ⟨_, rfl, _, _, rfl, .inr ⟨_, SqT.of hp, rfl⟩, rfl, _, rfl, ?_⟩
    refine if_neI (fun _ => q0) (fun z => ?_)
    exact absurd (show xs.length = 7 by omega) hl
  · refine ⟨_, rfl, _, _, true, rfl, .inl ⟨_, rfl⟩, ⟨_, .tup hp, kit_tup_tup⟩, _, rfl, iteF ?_⟩
    refine ⟨_, rfl, _, _, rfl, .inr ⟨_, SqT.of hp, rfl⟩, rfl, _, rfl, iteF ?_⟩
    refine ⟨_, rfl, _, rfl, p, _, rfl, SqT.of hp, cut_lt (n := 7) (by decide) (by decide), ?_⟩
    intro p1 n1
    obtain ⟨H1, q1, s1, e1⟩ := newO n1 (.tup (cutV [v0, v1, v2, v3, v4, v5, v6] none (some 6)))
    rw [q1]
    clear q1
    replace e1 : H1 p1 = some (.tup [v0, v1, v2, v3, v4, v5]) := e1
    have hp1 := s1 _ _ hp
    refine ⟨p1, rfl, ⟨_, SqT.of e1⟩, lc_tup (K := K) (xs := [v0, v1, v2, v3, v4, v5]) (fun i ys H' => Same H1 H' ∧ ys = ([c0, c1, c2, c3, c4, c5].take i).map V.bl ∧ i ≤ 6) ⟨Same.refl _, rfl, by omega⟩ (by rw [sizeLine_eq]; simp) (fun i ys H' ⟨_, e, l⟩ => by rw [e]; simp; omega) (fun i ys H' ⟨g, _⟩ => SqT.of (g _ _ e1)) ?_ ?_⟩
    · rintro i y ys H' Q' hy ⟨g, rfl, li⟩ k
      match i, hy with
      | 0, hy => cases hy; exact ⟨_, rfl, v0, c0, rfl, f0.same (s1.trans g), fun H2 s2 => k _ _ ⟨g.trans s2, rfl, by omega⟩⟩
      | 1, hy => cases hy; exact ⟨_, rfl, v1, c1, rfl, f1.same (s1.trans g), fun H2 s2 => k _ _ ⟨g.trans s2, rfl, by omega⟩⟩
      | 2, hy => cases hy; exact ⟨_, rfl, v2, c2, rfl, f2.1.same (s1.trans g), fun H2 s2 => k _ _ ⟨g.trans s2, rfl, by omega⟩⟩
      | 3, hy => cases hy; exact ⟨_, rfl, v3, c3, rfl, f3.1.same (s1.trans g), fun H2 s2 => k _ _ ⟨g.trans s2, rfl, by omega⟩⟩
      | 4, hy => cases hy; exact ⟨_, rfl, v4, c4, rfl, f4.same (s1.trans g), fun H2 s2 => k _ _ ⟨g.trans s2, rfl, by omega⟩⟩
      | 5, hy => cases hy; exact ⟨_, rfl, v5, c5, rfl, f5.same (s1.trans g), fun H2 s2 => k _ _ ⟨g.trans s2, rfl, by omega⟩⟩
    · rintro ys H' ⟨g, ey, _⟩
      replace ey : ys = [c0, c1, c2, c3, c4, c5].map V.bl := ey
      subst ey
      intro p5 n5
      obtain ⟨H5, q5, s5, e5⟩ := newO n5 (.lst ([c0, c1, c2, c3, c4, c5].map V.bl))
      rw [q5]
      clear q5
      have s15 := s1.trans (g.trans s5)
      refine ⟨p5, [c0, c1, c2, c3, c4, c5], rfl, SqL.of e5, _, rfl, ?_⟩
      cases hca : [c0, c1, c2, c3, c4, c5].all id with
      | false =>
        refine iteT ?_
        have z := q _ s15
        rw [box_all _ _ _ _ _ _ d2 d3 c6 hca] at z
        exact z
      | true =>
        refine iteF ?_
        obtain ⟨rfl, rfl, rfl, rfl, rfl, rfl⟩ := box_true _ _ _ _ _ _ hca
        replace q : ∀ H', Same H H' → Q (.bl (d2 && (d3 && c6))) H' := q
        have hp5 := s15 _ _ hp
        obtain ⟨p2, i2, j2, rfl, hq2, _, _, _, _, rfl⟩ := f2.2 rfl
        obtain ⟨p3, i3, j3, rfl, hq3, _, _, _, _, rfl⟩ := f3.2 rfl
        replace hq2 := s15 _ _ hq2
        replace hq3 := s15 _ _ hq3
        have q5 := q _ s15
        refine ⟨_, rfl, p, _, _, _, rfl, rfl, SqT.of hp5, rfl, p2, _, _, _, rfl, rfl, SqT.of hq2, rfl, _, _, rfl, rfl, _, rfl, ?_⟩
        refine if_dec (fun c => ?_) (fun c => ?_)
        rotate_left
        · rw [decide_eq_false c, Bool.false_and] at q5
          exact q5
        rw [decide_eq_true c, Bool.true_and] at q5
        refine ⟨_, rfl, p, _, _, _, rfl, rfl, SqT.of hp5, rfl, p3, _, _, _, rfl, rfl, SqT.of hq3, rfl, _, _, rfl, rfl, _, rfl, ?_⟩
        refine if_dec (fun c => ?_) (fun c => ?_)
        rotate_left
        · rw [decide_eq_false c, Bool.false_and] at q5
          exact q5
        rw [decide_eq_true c, Bool.true_and] at q5
        rcases f6.same s15 with ⟨rfl, t, b1, b2, ty, k1, k2, k3⟩ | ⟨i, rfl, rfl⟩
        · refine ⟨_, rfl, p, _, _, _, rfl, rfl, SqT.of hp5, rfl, _, _, b1, b2, rfl, ty, k1, k2, _, rfl, ?_⟩
          rw [k3]
          exact iteF q5
        · refine ⟨_, rfl, p, _, _, _, rfl, rfl, SqT.of hp5, rfl, _, _, true, false, rfl, .int i, kit_int_int, kit_int_bool, _, rfl, iteT ?_⟩
          refine ⟨_, rfl, p, _, _, _, rfl, rfl, SqT.of hp5, rfl, _, _, rfl, rfl, _, rfl, ?_⟩
          refine if_dec (fun c => ?_) (fun c => ?_)
          · rw [decide_eq_true (show 1 ≤ i from c), Bool.true_and] at q5
            exact ⟨_, _, rfl, rfl, q5⟩
          · rw [decide_eq_false (show ¬ 1 ≤ i from c), Bool.false_and] at q5
            exact q5
theorem sc_law_room_due : FnScope ["thing"] ["thing"] (defScope (top 39)) := ⟨rfl, rfl, rfl, by decide +kernel, rfl, by decide +kernel, by decide +kernel⟩
theorem ok_law_room_due (D : Df K mg "_law_room_due" (top 39) ["thing"]) (T : Tx K mg) (F_law_is_fraction : Fn P w K mg base 2 "_law_is_fraction" ["thing"] (spLFrac K)) : Fn P w K mg base 3 "_law_room_due" ["thing"] (spRoomC K) := by
  refine D.ok0 sc_law_room_due (fun vs H Q E h => ?_) (fun f cdv A outer s H vs Q E hr h => ?_)
  · obtain ⟨x, c, rfl, _⟩ := h
    rfl
  obtain ⟨x, c, rfl, hb, q⟩ := h
  refine ⟨_, (pss_cons (ps_if (@PW.pt _ _ _ (pw_or (pt_not (pt_val (pe_callB call_isinst (by rfl) T.b_isinstance PyProof.Rows.Boot.«isinstance» (pa_cons (pv 0) (pa_cons (pe_bty (by rfl) T.b_tuple PyProof.Rows.Boot.«tuple») pa_nil))) (fun _ => rfl))) (pw_or (pt_cmpR op_ne (pe_callB call_len (by rfl) T.b_len PyProof.Rows.Boot.«len» (pa_cons (pv 0) pa_nil)) pe_int (nomark _)) (pw_or1 (pt_not (pt_val (pe_callB (call_all (K := K) rfl rfl) (by rfl) T.b_all PyProof.Rows.Boot.«all» (pa_cons (@pe_lc _ _ _ _ _ _ _ _ _ _ [] [] rfl (pi_tup (pv 0)) rfl (by decide) rfl (by decide) rfl (by decide) cap_none (fun _ _ h => nomatch h) (no_free rfl) (fun C z Hc fp => (pe_fn F_law_is_fraction (by decide) hr (by rfl) passE0 (pa_cons (pv 0) pa_nil))) (fun _ => rfl)) pa_nil)) (fun _ => rfl))))))) (pss_one (ps_ret pe_bl)) pss_nil)
      (pss_one (ps_ret (pe_and (pe_cmpR op_gt (pe_ix ix_tup (pe_ix ix_tup (pv 0) pe_int (fun _ _ => rfl)) pe_int (fun _ _ => rfl)) pe_int (nomark _)) (pe_one (pe_cmpR op_gt (pe_ix ix_tup (pe_ix ix_tup (pv 0) pe_int (fun _ _ => rfl)) pe_int (fun _ _ => rfl)) pe_int (nomark _))))))), ?_⟩
  have q0 := q H (Same.refl H)
  rcases hb with ⟨rfl, t, ty, kt⟩ | ⟨rfl, p, xs, rfl, hp, hl⟩ | ⟨p, v0, v1, c0, c1, d0, d1, rfl, hp, f0, f1, rfl⟩
  · exact ⟨_, rfl, _, _, false, rfl, .inl ⟨_, rfl⟩, ⟨_, ty, kt⟩, _, rfl, iteT q0⟩
  · refine ⟨_, rfl, _, _, true, rfl, .inl ⟨_, rfl⟩, ⟨_, .tup hp, kit_tup_tup⟩, _, rfl, iteF ?_⟩
    refine ⟨_, rfl, _, _, rfl, .inr ⟨_, SqT.of hp, rfl⟩, rfl, _, rfl, ?_⟩
    refine if_neI (fun _ => q0) (fun z => ?_)
    exact absurd (show xs.length = 2 by omega) hl
  · refine ⟨_, rfl, _, _, true, rfl, .inl ⟨_, rfl⟩, ⟨_, .tup hp, kit_tup_tup⟩, _, rfl, iteF ?_⟩
    refine ⟨_, rfl, _, _, rfl, .inr ⟨_, SqT.of hp, rfl⟩, rfl, _, rfl, iteF ?_⟩
    refine ⟨_, rfl, p, rfl, ⟨_, SqT.of hp⟩, lc_tup (K := K) (xs := [v0, v1]) (fun i ys H' => Same H H' ∧ ys = ([c0, c1].take i).map V.bl ∧ i ≤ 2) ⟨Same.refl _, rfl, by omega⟩ (by rw [sizeLine_eq]; simp) (fun i ys H' ⟨_, e, l⟩ => by rw [e]; simp; omega) (fun i ys H' ⟨g, _⟩ => SqT.of (g _ _ hp)) ?_ ?_⟩
    · rintro i y ys H' Q' hy ⟨g, rfl, li⟩ k
      match i, hy with
      | 0, hy => cases hy; exact ⟨_, rfl, v0, c0, rfl, f0.1.same g, fun H2 s2 => k _ _ ⟨g.trans s2, rfl, by omega⟩⟩
      | 1, hy => cases hy; exact ⟨_, rfl, v1, c1, rfl, f1.1.same g, fun H2 s2 => k _ _ ⟨g.trans s2, rfl, by omega⟩⟩
    · rintro ys H' ⟨g, ey, _⟩
      replace ey : ys = [c0, c1].map V.bl := ey
      subst ey
      intro p5 n5
      obtain ⟨H5, q5, s5, e5⟩ := newO n5 (.lst ([c0, c1].map V.bl))
      rw [q5]
      clear q5
      have s15 := g.trans s5
      refine ⟨p5, [c0, c1], rfl, SqL.of e5, _, rfl, ?_⟩
      cases hca : [c0, c1].all id with
      | false =>
        refine iteT ?_
        have z := q _ s15
        rw [room_all _ _ d0 d1 hca] at z
        exact z
      | true =>
        refine iteF ?_
        obtain ⟨rfl, rfl⟩ := room_true _ _ hca
        replace q : ∀ H', Same H H' → Q (.bl (d0 && d1)) H' := q
        have hp5 := s15 _ _ hp
        obtain ⟨p2, i2, j2, rfl, hq2, _, _, _, _, rfl⟩ := f0.2 rfl
        obtain ⟨p3, i3, j3, rfl, hq3, _, _, _, _, rfl⟩ := f1.2 rfl
        replace hq2 := s15 _ _ hq2
        replace hq3 := s15 _ _ hq3
        have q5 := q _ s15
        refine ⟨_, rfl, p, _, _, _, rfl, rfl, SqT.of hp5, rfl, p2, _, _, _, rfl, rfl, SqT.of hq2, rfl, _, _, rfl, rfl, _, rfl, ?_⟩
        refine if_dec (fun c => ?_) (fun c => ?_)
        rotate_left
        · rw [decide_eq_false c, Bool.false_and] at q5
          exact q5
        rw [decide_eq_true c, Bool.true_and] at q5
        exact ⟨_, rfl, p, _, _, _, rfl, rfl, SqT.of hp5, rfl, p3, _, _, _, rfl, rfl, SqT.of hq3, rfl, _, _, rfl, rfl, q5⟩
def spRoomD : Sp := fun vs H Q _ => ∃ b n, vs = [.ref b] ∧ H b = some (.lst [.int n]) ∧ ∀ rp r0 r1 x0 x1 H' n', But b H H' → H' b = some (.lst [.int n']) → H' rp = some (.tup [.ref r0, .ref r1]) → FH H' r0 x0 → FH H' r1 x1 → FB 64 x0 → FB 64 x1 → Q (.ref rp) H'
theorem sc_law_room : FnScope ["box"] ["box"] (defScope (top 34)) := ⟨rfl, rfl, rfl, by decide +kernel, rfl, by decide +kernel, by decide +kernel⟩
theorem ok_law_room (D : Df K mg "_law_room" (top 34) ["box"]) (T : Tx K mg) (F_law_take : Fn P w K mg base 1 "_law_take" ["box", "many"] spTake) (F_law_fit : Fn P w K mg base 1 "_law_fit" ["top", "bottom"] (sp_law_fit K)) : Fn P w K mg base 2 "_law_room" ["box"] spRoomD := by
  refine D.ok0 sc_law_room (fun vs H Q E h => ?_) (fun f cdv A outer s H vs Q E hr h => ?_)
  · obtain ⟨b, n, rfl, _⟩ := h
    rfl
  obtain ⟨b, n, rfl, hb, q⟩ := h
  refine ⟨_, (pss_cons (ps_if (pt_cmpR op_eq (pe_fn F_law_take (by decide) hr (by rfl) passE0 (pa_cons (pv 0) (pa_cons pe_int pa_nil))) pe_int (nomark _)) (pss_one (ps_ret (pe_tup (pa_cons (pe_tup (pa_cons (pe_op op_add pe_int (pe_fn F_law_take (by decide) hr (by rfl) passE0 (pa_cons (pv 0) (pa_cons pe_int pa_nil)))) (pa_cons pe_int pa_nil))) (pa_cons (pe_tup (pa_cons (pe_op op_add pe_int (pe_fn F_law_take (by decide) hr (by rfl) passE0 (pa_cons (pv 0) (pa_cons pe_int pa_nil)))) (pa_cons pe_int pa_nil))) pa_nil))))) pss_nil)
      (pss_one (ps_ret (pe_tup (pa_cons (pe_fn F_law_fit (by decide) hr (by rfl) passE0 (pa_cons (pe_op op_add pe_int (pe_fn F_law_take (by decide) hr (by rfl) passE0 (pa_cons (pv 0) (pa_cons pe_int pa_nil)))) (pa_cons pe_int pa_nil))) (pa_cons (pe_fn F_law_fit (by decide) hr (by rfl) passE0 (pa_cons (pe_op op_add pe_int (pe_fn F_law_take (by decide) hr (by rfl) passE0 (pa_cons (pv 0) (pa_cons pe_int pa_nil)))) (pa_cons pe_int pa_nil))) pa_nil)))))), ?_⟩
  have sm9 : ∀ i : Int, -(2 ^ 64) < i → i < 2 ^ 64 → Bd 9000 i := fun i h1 h2 => (Bd.small h1 h2).mono (by decide)
  refine ⟨_, rfl, b, 2, n, rfl, hb, by decide, sm9 _ (by decide) (by decide), fun d1 n1 H1 u1 v1 s1 hb1 => ⟨rfl, _, rfl, ?_⟩⟩
  refine if_decI (fun c => ?_) (fun c => ?_)
  · refine ⟨_, rfl, b, 7, n1, rfl, hb1, by decide, sm9 _ (by decide) (by decide), fun d2 n2 H2 u2 v2 s2 hb2 => ?_⟩
    refine ⟨_, _, rfl, rfl, by show 2 ≤ sizeLine; decide, ?_⟩
    intro p3 n3
    obtain ⟨H3, q3, s3, e3⟩ := newO n3 (.tup [.int (6 + d2), .int 1])
    rw [q3]
    clear q3
    refine ⟨_, rfl, b, 7, n2, rfl, s3 _ _ hb2, by decide, sm9 _ (by decide) (by decide), fun d4 n4 H4 u4 v4 s4 hb4 => ?_⟩
    refine ⟨_, _, rfl, rfl, by show 2 ≤ sizeLine; decide, ?_⟩
    intro p5 n5
    obtain ⟨H5, q5, s5, e5⟩ := newO n5 (.tup [.int (4 + d4), .int 1])
    rw [q5]
    clear q5
    refine ⟨by show 2 ≤ sizeLine; decide, ?_⟩
    intro p6 n6
    obtain ⟨H6, q6, s6, e6⟩ := newO n6 (.tup [.ref p3, .ref p5])
    rw [q6]
    clear q6
    have f3 : FH H3 p3 ((6 + d2 : Int) : Rat) := e3
    have f5 : FH H5 p5 ((4 + d4 : Int) : Rat) := e5
    exact q p6 p3 p5 _ _ H6 n4 (s1.trans (s2.trans ((But.of s3).trans (s4.trans (But.of (s5.trans s6)))))) (s6 _ _ (s5 _ _ hb4)) e6 (FH.same (s5.trans s6) (FH.but s4 (s3 _ _ hb2) f3)) (FH.same s6 f5) (FB.ofInt (Bd.small (by omega) (by omega)) (by decide)) (FB.ofInt (Bd.small (by omega) (by omega)) (by decide))
  · refine ⟨_, rfl, b, 60, n1, rfl, hb1, by decide, sm9 _ (by decide) (by decide), fun d2 n2 H2 u2 v2 s2 hb2 => ?_⟩
    refine ⟨_, _, rfl, rfl, _, _, rfl, sm9 _ (by decide) (by decide), by decide, fun p3 H3 s3 f3 => ?_⟩
    refine ⟨_, rfl, b, 60, n2, rfl, s3 _ _ hb2, by decide, sm9 _ (by decide) (by decide), fun d4 n4 H4 u4 v4 s4 hb4 => ?_⟩
    refine ⟨_, _, rfl, rfl, _, _, rfl, sm9 _ (by decide) (by decide), by decide, fun p5 H5 s5 f5 => ?_⟩
    refine ⟨by show 2 ≤ sizeLine; decide, ?_⟩
    intro p6 n6
    obtain ⟨H6, q6, s6, e6⟩ := newO n6 (.tup [.ref p3, .ref p5])
    rw [q6]
    clear q6
    exact q p6 p3 p5 _ _ H6 n4 (s1.trans (s2.trans ((But.of s3).trans (s4.trans (But.of (s5.trans s6)))))) (s6 _ _ (s5 _ _ hb4)) e6 (FH.same (s5.trans s6) (FH.but s4 (s3 _ _ hb2) f3)) (FH.same s6 f5) (FB.fit (by decide) (Bd.small (by omega) (by omega)) (Bd.small (by decide) (by decide))) (FB.fit (by decide) (Bd.small (by omega) (by omega)) (Bd.small (by decide) (by decide)))
def spAp (K : PySem.W.Frag) : Sp := fun vs H Q _ => ∃ z k y l, vs = [z, y] ∧ BxS K H z k ∧ BxS K H y l ∧ ∀ H', Same H H' → Q (.bl (!ovQ k l)) H'
theorem sc_law_apart : FnScope ["one", "other", "way"] ["one", "other"] (defScope (top 35)) := ⟨rfl, rfl, rfl, by decide +kernel, rfl, by decide +kernel, by decide +kernel⟩
theorem ok_law_apart (D : Df K mg "_law_apart" (top 35) ["one", "other"]) (T : Tx K mg) (F_law_less : Fn P w K mg base 1 "_law_less" ["one", "other"] (sp_law_less K)) (F_law_plus : Fn P w K mg base 2 "_law_plus" ["one", "other"] (sp_law_plus K)) : Fn P w K mg base 3 "_law_apart" ["one", "other"] (spAp K) := by
  refine D.ok0 sc_law_apart (fun vs H Q E h => ?_) (fun f cdv A outer s H vs Q E hr h => ?_)
  · obtain ⟨z, k, y, l, rfl, _⟩ := h
    rfl
  obtain ⟨z, k, y, l, rfl, hz, hy, q⟩ := h
  refine ⟨_, (pss_cons (ps_for PassesOwn.never rfl (pi_range1 (by rfl) T.b_range (pa_cons pe_int pa_nil)) (pg_name (i := 2) sc_law_apart.nd rfl (Or.inl rfl)) (pss_cons (ps_if (pt_not (pt_val (pe_fn F_law_less (by decide) hr (by rfl) passE0 (pa_cons (pe_ix ix_tup (pv 1) (pv 2) (fun _ _ => rfl)) (pa_cons (pe_fn F_law_plus (by decide) hr (by rfl) passE0 (pa_cons (pe_ix ix_tup (pv 0) (pv 2) (fun _ _ => rfl)) (pa_cons (pe_ix ix_tup (pv 0) (pe_op op_add pe_int (pv 2)) (fun _ _ => rfl)) pa_nil))) pa_nil))) (fun _ => rfl))) (pss_one (ps_ret pe_bl)) pss_nil)
      (pss_one (ps_if (pt_not (pt_val (pe_fn F_law_less (by decide) hr (by rfl) passE0 (pa_cons (pe_ix ix_tup (pv 0) (pv 2) (fun _ _ => rfl)) (pa_cons (pe_fn F_law_plus (by decide) hr (by rfl) passE0 (pa_cons (pe_ix ix_tup (pv 1) (pv 2) (fun _ _ => rfl)) (pa_cons (pe_ix ix_tup (pv 1) (pe_op op_add pe_int (pv 2)) (fun _ _ => rfl)) pa_nil))) pa_nil))) (fun _ => rfl))) (pss_one (ps_ret pe_bl)) pss_nil))))
      (pss_one (ps_ret pe_bl))), ?_⟩
  obtain ⟨p, a0, a1, a2, a3, v4, v5, v6, rfl, hp, ⟨g0, g1, g2, g3⟩, ⟨d0, d1, d2, d3⟩, w0, w1⟩ := id hz
  obtain ⟨r, b0, b1, b2, b3, u4, u5, u6, rfl, hr1, ⟨k0, k1, k2, k3⟩, ⟨f0, f1, f2, f3⟩, w2, w3⟩ := id hy
  have me : ∀ {x : Rat}, FB 1200 x → FB 60000 x := fun h => h.mono (by decide)
  have ms : ∀ {x y : Rat}, FB 1200 x → FB 1200 y → FB 60000 (x + y) := fun h g => (h.add g).mono (by decide)
  have md : ∀ {x : Rat}, FB 1200 x → FB 4400 x := fun h => h.mono (by decide)
  have bad : ovQ k l = false → ∀ H', Same H H' → Q (.bl true) H' := fun e H' s' => by
    have z := q H' s'
    rw [e] at z
    exact z
  refine ⟨_, rfl, by decide, by decide, for_range (n := 2) (fun i σ1 H1 => ∃ r3 : Option V, σ1 = [some (.ref p), some (.ref r), r3] ∧ Same H H1 ∧ (1 ≤ i → hicQ k.x k.w l.x l.w = true) ∧ (2 ≤ i → hicQ k.y k.h l.y l.h = true)) ⟨_, rfl, Same.refl H, fun z => absurd z (by omega), fun z => absurd z (by omega)⟩ ?_ ?_⟩
  · rintro i σ1 H1 hi ⟨r3, rfl, sm, i1, i2⟩
    have hp1 := Kw.Same.tup sm hp
    have hq1 := Kw.Same.tup sm hr1
    match i, hi with
    | 0, _ =>
      refine ⟨_, rfl, _, rfl, r, _, _, _, rfl, rfl, hq1, rfl, _, rfl, _, rfl, p, _, _, _, rfl, rfl, hp1, rfl, _, rfl, _, rfl, _, _, rfl, rfl, p, _, _, _, rfl, rfl, hp1, rfl, ?_⟩
      refine ⟨_, _, _, _, rfl, Kw.Same.tup sm g0, md d0, Kw.Same.tup sm g2, md d2, fun m2 H2 s2 e2 => ?_⟩
      have t2 := sm.trans s2
      refine ⟨_, _, _, _, rfl, Kw.Same.tup t2 k0, me f0, e2, ms d0 d2, fun H3 s3 => ⟨_, rfl, ?_⟩⟩
      have t3 := t2.trans s3
      refine if_not (fun c => ?_) (fun c => ?_)
      · refine bad ?_ H3 t3
        unfold ovQ hicQ
        rw [decide_eq_false c]
        simp
      refine ⟨_, rfl, _, rfl, p, _, _, _, rfl, rfl, Kw.Same.tup t3 hp, rfl, _, rfl, _, rfl, r, _, _, _, rfl, rfl, Kw.Same.tup t3 hr1, rfl, _, rfl, _, rfl, _, _, rfl, rfl, r, _, _, _, rfl, rfl, Kw.Same.tup t3 hr1, rfl, ?_⟩
      refine ⟨_, _, _, _, rfl, Kw.Same.tup t3 k0, md f0, Kw.Same.tup t3 k2, md f2, fun m4 H4 s4 e4 => ?_⟩
      have t4 := t3.trans s4
      refine ⟨_, _, _, _, rfl, Kw.Same.tup t4 g0, me d0, e4, ms f0 f2, fun H5 s5 => ⟨_, rfl, ?_⟩⟩
      have t5 := t4.trans s5
      refine if_not (fun c2 => ?_) (fun c2 => ?_)
      · refine bad ?_ H5 t5
        unfold ovQ hicQ
        rw [decide_eq_false c2]
        simp
      have hh : hicQ k.x k.w l.x l.w = true := by
        unfold hicQ
        rw [decide_eq_true c, decide_eq_true c2]
        rfl
      exact ⟨_, rfl, t5, fun _ => hh, fun z => absurd z (by omega)⟩
    | 1, _ =>
      refine ⟨_, rfl, _, rfl, r, _, _, _, rfl, rfl, hq1, rfl, _, rfl, _, rfl, p, _, _, _, rfl, rfl, hp1, rfl, _, rfl, _, rfl, _, _, rfl, rfl, p, _, _, _, rfl, rfl, hp1, rfl, ?_⟩
      refine ⟨_, _, _, _, rfl, Kw.Same.tup sm g1, md d1, Kw.Same.tup sm g3, md d3, fun m2 H2 s2 e2 => ?_⟩
      have t2 := sm.trans s2
      refine ⟨_, _, _, _, rfl, Kw.Same.tup t2 k1, me f1, e2, ms d1 d3, fun H3 s3 => ⟨_, rfl, ?_⟩⟩
      have t3 := t2.trans s3
      refine if_not (fun c => ?_) (fun c => ?_)
      · refine bad ?_ H3 t3
        unfold ovQ hicQ
        rw [decide_eq_false c]
        simp
      refine ⟨_, rfl, _, rfl, p, _, _, _, rfl, rfl, Kw.Same.tup t3 hp, rfl, _, rfl, _, rfl, r, _, _, _, rfl, rfl, Kw.Same.tup t3 hr1, rfl, _, rfl, _, rfl, _, _, rfl, rfl, r, _, _, _, rfl, rfl, Kw.Same.tup t3 hr1, rfl, ?_⟩
      refine ⟨_, _, _, _, rfl, Kw.Same.tup t3 k1, md f1, Kw.Same.tup t3 k3, md f3, fun m4 H4 s4 e4 => ?_⟩
      have t4 := t3.trans s4
      refine ⟨_, _, _, _, rfl, Kw.Same.tup t4 g1, me d1, e4, ms f1 f3, fun H5 s5 => ⟨_, rfl, ?_⟩⟩
      have t5 := t4.trans s5
      refine if_not (fun c2 => ?_) (fun c2 => ?_)
      · refine bad ?_ H5 t5
        unfold ovQ hicQ
        rw [decide_eq_false c2]
        simp
      have hh : hicQ k.y k.h l.y l.h = true := by
        unfold hicQ
        rw [decide_eq_true c, decide_eq_true c2]
        rfl
      exact ⟨_, rfl, t5, fun _ => i1 (by omega), fun _ => hh⟩
  · rintro σ1 H1 ⟨r3, rfl, sm, i1, i2⟩
    have z := q H1 sm
    unfold ovQ at z
    rw [i1 (by decide), i2 (by decide)] at z
    exact z
theorem sc_law_overlap : FnScope ["one", "other"] ["one", "other"] (defScope (top 40)) := ⟨rfl, rfl, rfl, by decide +kernel, rfl, by decide +kernel, by decide +kernel⟩
theorem ok_law_overlap (D : Df K mg "_law_overlap" (top 40) ["one", "other"]) (T : Tx K mg) (F_law_apart : Fn P w K mg base 3 "_law_apart" ["one", "other"] (spAp K)) : Fn P w K mg base 4 "_law_overlap" ["one", "other"] (spOv K) := by
  refine D.ok0 sc_law_overlap (fun vs H Q E h => ?_) (fun f cdv A outer s H vs Q E hr h => ?_)
  · obtain ⟨z, k, y, l, c, rfl, _⟩ := h
    rfl
  obtain ⟨z, k, y, l, c, rfl, hz, hy, e, q⟩ := h
  refine ⟨_, (pss_one (ps_ret (pe_not (pe_fn F_law_apart (by decide) hr (by rfl) passE0 (pa_cons (pv 0) (pa_cons (pv 1) pa_nil)))))), ?_⟩
  refine ⟨_, rfl, _, rfl, z, k, y, l, rfl, hz, hy, fun H1 s1 => ⟨_, rfl, ?_⟩⟩
  have z := q H1 s1
  rw [← e, ← Bool.not_not (ovQ k l)] at z
  exact z
def spSpoilt : Sp := fun vs H Q _ => ∃ b n z k o, vs = [.ref b, z, o] ∧ H b = some (.lst [.int n]) ∧ BxH H z k ∧ Th b H o ∧ ∀ v H' n', But b H H' → H' b = some (.lst [.int n']) → Th b H' v → Q v H'
theorem sc_law_spoilt : FnScope ["box", "one", "odd", "way"] ["box", "one", "odd"] (defScope (top 38)) := ⟨rfl, rfl, rfl, by decide +kernel, rfl, by decide +kernel, by decide +kernel⟩
theorem ok_law_spoilt (D : Df K mg "_law_spoilt" (top 38) ["box", "one", "odd"]) (T : Tx K mg) (F_law_take : Fn P w K mg base 1 "_law_take" ["box", "many"] spTake) : Fn P w K mg base 2 "_law_spoilt" ["box", "one", "odd"] spSpoilt := by
  refine D.ok0 sc_law_spoilt (fun vs H Q E h => ?_) (fun f cdv A outer s H vs Q E hr h => ?_)
  · obtain ⟨b, n, z, k, o, rfl, _⟩ := h
    rfl
  obtain ⟨b, n, z, k, o, rfl, hb, hz, ho, q⟩ := h
  refine ⟨_, (pss_cons (ps_set (i := 3) sc_law_spoilt.nd rfl (Or.inl rfl) (pe_fn F_law_take (by decide) hr (by rfl) passE0 (pa_cons (pv 0) (pa_cons pe_int pa_nil))))
      (pss_cons (ps_if (pt_cmpR op_lt (pv 3) pe_int (nomark _)) (pss_one (ps_ret (pe_op op_catB (pe_op op_catB (pe_slice sl_tup (pv 1) po_none (po_some (pv 3))) (pe_tup (pa_cons (pv 2) pa_nil))) (pe_slice sl_tup (pv 1) (po_some (pe_op op_add (pv 3) pe_int)) po_none)))) pss_nil)
      (pss_cons (ps_if (pt_cmpR op_eq (pv 3) pe_int (nomark _)) (pss_one (ps_ret (pe_op op_catB (pe_op op_catB (pe_slice sl_tup (pv 1) po_none (po_some pe_int)) (pe_tup (pa_cons (pe_tup (pa_cons pe_int (pa_cons pe_int pa_nil))) pa_nil))) (pe_slice sl_tup (pv 1) (po_some pe_int) po_none)))) pss_nil)
      (pss_cons (ps_if (pt_cmpR op_eq (pv 3) pe_int (nomark _)) (pss_one (ps_ret (pe_op op_catB (pe_op op_catB (pe_slice sl_tup (pv 1) po_none (po_some pe_int)) (pe_tup (pa_cons (pe_tup (pa_cons (pe_op op_sub pe_int (pe_ix ix_tup (pe_ix ix_tup (pv 1) pe_int (fun _ _ => rfl)) pe_int (fun _ _ => rfl))) (pa_cons (pe_ix ix_tup (pe_ix ix_tup (pv 1) pe_int (fun _ _ => rfl)) pe_int (fun _ _ => rfl)) pa_nil))) pa_nil))) (pe_slice sl_tup (pv 1) (po_some pe_int) po_none)))) pss_nil)
      (pss_cons (ps_if (pt_cmpR op_eq (pv 3) pe_int (nomark _)) (pss_one (ps_ret (pe_op op_catB (pe_slice sl_tup (pv 1) po_none (po_some pe_int)) (pe_tup (pa_cons (pe_ix ix_list (pe_lst (pa_cons pe_int (pa_cons pe_int (pa_cons (pe_un un_neg pe_int) pa_nil)))) (pe_fn F_law_take (by decide) hr (by rfl) passE0 (pa_cons (pv 0) (pa_cons pe_int pa_nil))) (fun _ _ => rfl)) pa_nil))))) pss_nil)
      (pss_cons (ps_if (pt_cmpR op_eq (pv 3) pe_int (nomark _)) (pss_one (ps_ret (pe_callTy call_list_of (by rfl) T.b_list PyProof.Rows.Boot.«list» (pa_cons (pv 1) pa_nil)))) pss_nil)
      (pss_cons (ps_if (pt_cmpR op_eq (pv 3) pe_int (nomark _)) (pss_one (ps_ret (pe_slice sl_tup (pv 1) po_none (po_some pe_int)))) pss_nil)
      (pss_cons (ps_if (pt_cmpR op_eq (pv 3) pe_int (nomark _)) (pss_one (ps_ret (pe_op op_catB (pv 1) (pe_tup (pa_cons pe_int pa_nil))))) pss_nil)
      (pss_one (ps_ret (pe_op op_catB (pe_tup (pa_cons (pe_tup (pa_cons (pe_op op_mulB pe_int (pe_ix ix_tup (pe_ix ix_tup (pv 1) pe_int (fun _ _ => rfl)) pe_int (fun _ _ => rfl))) (pa_cons (pe_op op_mulB pe_int (pe_ix ix_tup (pe_ix ix_tup (pv 1) pe_int (fun _ _ => rfl)) pe_int (fun _ _ => rfl))) pa_nil))) pa_nil)) (pe_slice sl_tup (pv 1) (po_some pe_int) po_none)))))))))))), ?_⟩
  have sm9 : ∀ i : Int, -(2 ^ 64) < i → i < 2 ^ 64 → Bd 9000 i := fun i h1 h2 => (Bd.small h1 h2).mono (by decide)
  refine ⟨_, rfl, b, 14, n, rfl, hb, by decide, sm9 _ (by decide) (by decide), fun d n1 H1 u1 v1 s1 hb1 => ?_⟩
  have hz1 := hz.but s1 hb
  have ho1 := ho.but s1
  obtain ⟨p, a0, a1, a2, a3, a4, a5, rfl, hp, ⟨h0, h1, h2, h3, h4, h5⟩, ⟨g0, g1, g2, g3, g4, g5⟩, w0, w1, bm⟩ := hz1
  have md : ∀ {x : Rat}, FB 500 x → FB 3000 x := fun h => h.mono (by decide)
  have th : ∀ x ∈ ([.ref a0, .ref a1, .ref a2, .ref a3, .ref a4, .ref a5, .int k.m] : List V), Th b H1 x := th_cons (h0.th (md g0) hb1) (th_cons (h1.th (md g1) hb1) (th_cons (h2.th (md g2) hb1) (th_cons (h3.th (md g3) hb1) (th_cons (h4.th (md g4) hb1) (th_cons (h5.th (md g5) hb1) (th_cons (.int (bm.mono (by decide))) th_nil))))))
  have cl : ∀ lo hi, (cutV [.ref a0, .ref a1, .ref a2, .ref a3, .ref a4, .ref a5, .int k.m] lo hi).length ≤ 7 := fun lo hi => cutV_length _ _ _
  have fin : ∀ {r : Addr} {H' : Hp} {ys : List V}, Same H1 H' → H' r = some (.tup ys) → (∀ x ∈ ys, Th b H' x) → Q (.ref r) H' := fun {r H' ys} sm e h => q _ H' n1 (s1.trans (.of sm)) (sm _ _ hb1) (th_tup (sm _ _ hb1) e h)
  refine ⟨_, rfl, _, _, rfl, rfl, _, rfl, ?_⟩
  refine if_dec (fun c => ?_) (fun c => ?_)
  · refine ⟨_, rfl, _, rfl, _, rfl, p, _, rfl, SqT.of hp, cut_lt (n := 7) u1 c, ?_⟩
    intro p2 n2
    obtain ⟨H2, q2, s2, e2⟩ := newO n2 (.tup (cutV [.ref a0, .ref a1, .ref a2, .ref a3, .ref a4, .ref a5, .int k.m] none (some d)))
    rw [q2]
    clear q2
    refine ⟨_, rfl, by show 1 ≤ sizeLine; decide, ?_⟩
    intro p3 n3
    obtain ⟨H3, q3, s3, e3⟩ := newO n3 (.tup [o])
    rw [q3]
    clear q3
    refine ⟨p2, p3, _, _, rfl, rfl, s3 _ _ e2, e3, (by simp only [List.length_append, List.length_cons, List.length_nil]; have z1 := cl none (some d); omega), fun p4 H4 s4 e4 => ?_⟩
    have hp4 := (s2.trans (s3.trans s4)) _ _ hp
    refine ⟨_, rfl, _, rfl, _, _, rfl, rfl, _, rfl, p, _, rfl, SqT.of hp4, cut_gt (n := 7) (by omega) (by decide), ?_⟩
    intro p5 n5
    obtain ⟨H5, q5, s5, e5⟩ := newO n5 (.tup (cutV [.ref a0, .ref a1, .ref a2, .ref a3, .ref a4, .ref a5, .int k.m] (some (d + 1)) none))
    rw [q5]
    clear q5
    refine ⟨p4, p5, _, _, rfl, rfl, s5 _ _ e4, e5, (by simp only [List.length_append, List.length_cons, List.length_nil]; have z1 := cl none (some d); have z2 := cl (some (d + 1)) none; omega), fun p6 H6 s6 e6 => ?_⟩
    have s16 := s2.trans (s3.trans (s4.trans (s5.trans s6)))
    exact fin s16 e6 (th_app (th_app (th_cut (th_allS th s16)) (th_cons (ho1.same s16) th_nil)) (th_cut (th_allS th s16)))
  refine ⟨_, rfl, rfl, _, rfl, ?_⟩
  refine if_decI (fun c7 => ?_) (fun c7 => ?_)
  · refine ⟨_, rfl, _, rfl, p, _, rfl, SqT.of hp, cut_lt (n := 7) (by decide) (by decide), ?_⟩
    intro p2 n2
    obtain ⟨H2, q2, s2, e2⟩ := newO n2 (.tup (cutV [.ref a0, .ref a1, .ref a2, .ref a3, .ref a4, .ref a5, .int k.m] none (some 2)))
    rw [q2]
    clear q2
    refine ⟨by show 2 ≤ sizeLine; decide, ?_⟩
    intro p3 n3
    obtain ⟨H3, q3, s3, e3⟩ := newO n3 (.tup [.int 0, .int 1])
    rw [q3]
    clear q3
    refine ⟨by show 1 ≤ sizeLine; decide, ?_⟩
    intro p4 n4
    obtain ⟨H4, q4, s4, e4⟩ := newO n4 (.tup [.ref p3])
    rw [q4]
    clear q4
    refine ⟨p2, p4, _, _, rfl, rfl, (s3.trans s4) _ _ e2, e4, (by simp only [List.length_append, List.length_cons, List.length_nil]; have z1 := cl none (some 2); omega), fun p5 H5 s5 e5 => ?_⟩
    have hp5 := (s2.trans (s3.trans (s4.trans s5))) _ _ hp
    refine ⟨_, rfl, _, rfl, p, _, rfl, SqT.of hp5, cut_gt (n := 7) (by decide) (by decide), ?_⟩
    intro p6 n6
    obtain ⟨H6, q6, s6, e6⟩ := newO n6 (.tup (cutV [.ref a0, .ref a1, .ref a2, .ref a3, .ref a4, .ref a5, .int k.m] (some 3) none))
    rw [q6]
    clear q6
    refine ⟨p5, p6, _, _, rfl, rfl, s6 _ _ e5, e6, (by simp only [List.length_append, List.length_cons, List.length_nil]; have z1 := cl none (some 2); have z2 := cl (some 3) none; omega), fun p7 H7 s7 e7 => ?_⟩
    have s37 := s4.trans (s5.trans (s6.trans s7))
    have s17 := s2.trans (s3.trans s37)
    have t3 : Th b H7 (.ref p3) := th_tup (s17 _ _ hb1) (s37 _ _ e3) (th_cons (th_sml (by decide) (by decide)) (th_cons (th_sml (by decide) (by decide)) th_nil))
    exact fin s17 e7 (th_app (th_app (th_cut (th_allS th s17)) (th_cons t3 th_nil)) (th_cut (th_allS th s17)))
  refine ⟨_, rfl, rfl, _, rfl, ?_⟩
  refine if_decI (fun c8 => ?_) (fun c8 => ?_)
  · refine ⟨_, rfl, _, rfl, p, _, rfl, SqT.of hp, cut_lt (n := 7) (by decide) (by decide), ?_⟩
    intro p2 n2
    obtain ⟨H2, q2, s2, e2⟩ := newO n2 (.tup (cutV [.ref a0, .ref a1, .ref a2, .ref a3, .ref a4, .ref a5, .int k.m] none (some 3)))
    rw [q2]
    clear q2
    have hp2 := s2 _ _ hp
    have h32 := s2 _ _ h3
    refine ⟨_, rfl, p, _, _, _, rfl, rfl, SqT.of hp2, rfl, a3, _, _, _, rfl, rfl, SqT.of h32, rfl, _, _, rfl, rfl, _, rfl, p, _, _, _, rfl, rfl, SqT.of hp2, rfl, a3, _, _, _, rfl, rfl, SqT.of h32, rfl, by show 2 ≤ sizeLine; decide, ?_⟩
    intro p3 n3
    obtain ⟨H3, q3, s3, e3⟩ := newO n3 (.tup [.int (0 - k.h.num), .int ((k.h.den : Nat) : Int)])
    rw [q3]
    clear q3
    refine ⟨by show 1 ≤ sizeLine; decide, ?_⟩
    intro p4 n4
    obtain ⟨H4, q4, s4, e4⟩ := newO n4 (.tup [.ref p3])
    rw [q4]
    clear q4
    refine ⟨p2, p4, _, _, rfl, rfl, (s3.trans s4) _ _ e2, e4, (by simp only [List.length_append, List.length_cons, List.length_nil]; have z1 := cl none (some 3); omega), fun p5 H5 s5 e5 => ?_⟩
    have hp5 := (s2.trans (s3.trans (s4.trans s5))) _ _ hp
    refine ⟨_, rfl, _, rfl, p, _, rfl, SqT.of hp5, cut_gt (n := 7) (by decide) (by decide), ?_⟩
    intro p6 n6
    obtain ⟨H6, q6, s6, e6⟩ := newO n6 (.tup (cutV [.ref a0, .ref a1, .ref a2, .ref a3, .ref a4, .ref a5, .int k.m] (some 4) none))
    rw [q6]
    clear q6
    refine ⟨p5, p6, _, _, rfl, rfl, s6 _ _ e5, e6, (by simp only [List.length_append, List.length_cons, List.length_nil]; have z1 := cl none (some 3); have z2 := cl (some 4) none; omega), fun p7 H7 s7 e7 => ?_⟩
    have s37 := s4.trans (s5.trans (s6.trans s7))
    have s17 := s2.trans (s3.trans s37)
    have b0 : Bd 500 0 := (Bd.small (by decide) (by decide)).mono (by decide)
    have t3 : Th b H7 (.ref p3) := th_tup (s17 _ _ hb1) (s37 _ _ e3) (th_cons (.int ((b0.sub g3.1).mono (by decide))) (th_cons (.int (g3.2.mono (by decide))) th_nil))
    exact fin s17 e7 (th_app (th_app (th_cut (th_allS th s17)) (th_cons t3 th_nil)) (th_cut (th_allS th s17)))
  refine ⟨_, rfl, rfl, _, rfl, ?_⟩
  refine if_decI (fun c9 => ?_) (fun c9 => ?_)
  · refine ⟨_, rfl, _, rfl, p, _, rfl, SqT.of hp, cut_lt (n := 7) (by decide) (by decide), ?_⟩
    intro p2 n2
    obtain ⟨H2, q2, s2, e2⟩ := newO n2 (.tup (cutV [.ref a0, .ref a1, .ref a2, .ref a3, .ref a4, .ref a5, .int k.m] none (some 6)))
    rw [q2]
    clear q2
    refine ⟨_, rfl, by show 3 ≤ sizeLine; decide, ?_⟩
    intro p3 n3
    obtain ⟨H3, q3, s3, e3⟩ := newO n3 (.lst [.int 0, .int 1001, .int (-1)])
    rw [q3]
    clear q3
    have hb3 := s3 _ _ (s2 _ _ hb1)
    have nl : p3 ≠ b := Ne.symm (ne_of_none (s2 _ _ hb1) n3)
    refine ⟨_, rfl, b, 3, n1, rfl, hb3, by decide, sm9 _ (by decide) (by decide), fun d4 n4 H4 u4 v4 s4 hb4 => ?_⟩
    obtain ⟨v, ev, mv⟩ := atI_mem [0, 1001, -1] d4 u4 v4
    have bv : -1 ≤ v ∧ v ≤ 1001 := (show ∀ z ∈ ([0, 1001, -1] : List Int), -1 ≤ z ∧ z ≤ 1001 by decide) v mv
    refine ⟨p3, _, _, _, rfl, rfl, SqL.of (s4 _ _ nl e3), ev, by show 1 ≤ sizeLine; decide, ?_⟩
    intro p5 n5
    obtain ⟨H5, q5, s5, e5⟩ := newO n5 (.tup [.int v])
    rw [q5]
    clear q5
    have e24 : H4 p2 = some (.tup (cutV [.ref a0, .ref a1, .ref a2, .ref a3, .ref a4, .ref a5, .int k.m] none (some 6))) := s4 _ _ (ne_of (s3 _ _ e2) hb3 (by intro z; cases z)) (s3 _ _ e2)
    refine ⟨p2, p5, _, _, rfl, rfl, s5 _ _ e24, e5, (by simp only [List.length_append, List.length_cons, List.length_nil]; have z1 := cl none (some 6); omega), fun p6 H6 s6 e6 => ?_⟩
    have s46 := s5.trans s6
    have hb6 := s46 _ _ hb4
    have b16 : But b H1 H6 := (But.of (s2.trans s3)).trans (s4.trans (.of s46))
    exact q _ H6 n4 (s1.trans b16) hb6 (th_tup hb6 e6 (th_app (th_cut (th_all th b16)) (th_cons (th_sml (by omega) (by omega)) th_nil)))
  refine ⟨_, rfl, rfl, _, rfl, ?_⟩
  refine if_decI (fun c10 => ?_) (fun c10 => ?_)
  · refine ⟨_, rfl, p, _, rfl, .inr (SqT.of hp), ?_⟩
    intro p2 n2
    obtain ⟨H2, q2, s2, e2⟩ := newO n2 (.lst [.ref a0, .ref a1, .ref a2, .ref a3, .ref a4, .ref a5, .int k.m])
    rw [q2]
    clear q2
    exact q _ H2 n1 (s1.trans (.of s2)) (s2 _ _ hb1) (.lst (Ne.symm (ne_of_none hb1 n2)) (by show 7 ≤ 100; decide) e2 (th_allS th s2))
  refine ⟨_, rfl, rfl, _, rfl, ?_⟩
  refine if_decI (fun c11 => ?_) (fun c11 => ?_)
  · refine ⟨_, rfl, _, rfl, p, _, rfl, SqT.of hp, cut_lt (n := 7) (by decide) (by decide), ?_⟩
    intro p2 n2
    obtain ⟨H2, q2, s2, e2⟩ := newO n2 (.tup (cutV [.ref a0, .ref a1, .ref a2, .ref a3, .ref a4, .ref a5, .int k.m] none (some 6)))
    rw [q2]
    clear q2
    exact fin s2 e2 (th_cut (th_allS th s2))
  refine ⟨_, rfl, rfl, _, rfl, ?_⟩
  refine if_decI (fun c12 => ?_) (fun c12 => ?_)
  · refine ⟨_, rfl, by show 1 ≤ sizeLine; decide, ?_⟩
    intro p2 n2
    obtain ⟨H2, q2, s2, e2⟩ := newO n2 (.tup [.int 1])
    rw [q2]
    clear q2
    refine ⟨p, p2, _, _, rfl, rfl, s2 _ _ hp, e2, by show 8 ≤ 1000; decide, fun p3 H3 s3 e3 => ?_⟩
    have s13 := s2.trans s3
    exact fin s13 e3 (th_app (th_allS th s13) (th_cons (th_sml (by decide) (by decide)) th_nil))
  refine ⟨_, rfl, p, _, _, _, rfl, rfl, SqT.of hp, rfl, a0, _, _, _, rfl, rfl, SqT.of h0, rfl, _, _, rfl, rfl, mulOk_smallL (by decide) (by decide), _, rfl, p, _, _, _, rfl, rfl, SqT.of hp, rfl, a0, _, _, _, rfl, rfl, SqT.of h0, rfl, _, _, rfl, rfl, mulOk_smallL (by decide) (by decide), by show 2 ≤ sizeLine; decide, ?_⟩
  intro p2 n2
  obtain ⟨H2, q2, s2, e2⟩ := newO n2 (.tup [.int (2 * k.x.num), .int (2 * ((k.x.den : Nat) : Int))])
  rw [q2]
  clear q2
  refine ⟨by show 1 ≤ sizeLine; decide, ?_⟩
  intro p3 n3
  obtain ⟨H3, q3, s3, e3⟩ := newO n3 (.tup [.ref p2])
  rw [q3]
  clear q3
  have hp3 := (s2.trans s3) _ _ hp
  refine ⟨_, rfl, _, rfl, p, _, rfl, SqT.of hp3, cut_gt (n := 7) (by decide) (by decide), ?_⟩
  intro p4 n4
  obtain ⟨H4, q4, s4, e4⟩ := newO n4 (.tup (cutV [.ref a0, .ref a1, .ref a2, .ref a3, .ref a4, .ref a5, .int k.m] (some 1) none))
  rw [q4]
  clear q4
  refine ⟨p3, p4, _, _, rfl, rfl, s4 _ _ e3, e4, (by simp only [List.length_append, List.length_cons, List.length_nil]; have z1 := cl (some 1) none; omega), fun p5 H5 s5 e5 => ?_⟩
  have s25 := s3.trans (s4.trans s5)
  have s15 := s2.trans s25
  have b2 : Bd 64 2 := Bd.small (by decide) (by decide)
  have t2 : Th b H5 (.ref p2) := th_tup (s15 _ _ hb1) (s25 _ _ e2) (th_cons (.int ((b2.mul g0.1).mono (by decide))) (th_cons (.int ((b2.mul g0.2).mono (by decide))) th_nil))
  exact fin s15 e5 (th_app (th_cons t2 th_nil) (th_cut (th_allS th s15)))
def spBoxes : Sp := fun vs H Q _ => ∃ b n rp r0 r1 x0 x1, vs = [.ref b, .ref rp] ∧ H b = some (.lst [.int n]) ∧ H rp = some (.tup [.ref r0, .ref r1]) ∧ FH H r0 x0 ∧ FH H r1 x1 ∧ FB 64 x0 ∧ FB 64 x1 ∧
  ∀ f xs ks n' H', But b H H' → H' b = some (.lst [.int n']) → f ≠ b → H' f = some (.lst xs) → Al2 (BxH H') xs ks → 1 ≤ xs.length → xs.length ≤ 6 → Q (.ref f) H'
theorem sc_law_boxes : FnScope ["box", "room", "found", "bottom", "k", "wide", "high", "left", "low", "right", "up", "weight", "one"] ["box", "room"] (defScope (top 36)) := ⟨rfl, rfl, rfl, by decide +kernel, rfl, by decide +kernel, by decide +kernel⟩
theorem ok_law_boxes (D : Df K mg "_law_boxes" (top 36) ["box", "room"]) (T : Tx K mg) (F_law_take : Fn P w K mg base 1 "_law_take" ["box", "many"] spTake) (F_law_fit : Fn P w K mg base 1 "_law_fit" ["top", "bottom"] (sp_law_fit K)) (F_law_less : Fn P w K mg base 1 "_law_less" ["one", "other"] (sp_law_less K)) (F_law_plus : Fn P w K mg base 2 "_law_plus" ["one", "other"] (sp_law_plus K)) (F_law_apart : Fn P w K mg base 3 "_law_apart" ["one", "other"] (spAp K)) : Fn P w K mg base 4 "_law_boxes" ["box", "room"] spBoxes := by
  refine D.ok0 sc_law_boxes (fun vs H Q E h => ?_) (fun f cdv A outer s H vs Q E hr h => ?_)
  · obtain ⟨b, n, rp, r0, r1, x0, x1, rfl, _⟩ := h
    rfl
  obtain ⟨b, n, rp, r0, r1, x0, x1, rfl, hb, hrm, gr0, gr1, dr0, dr1, q⟩ := h
  refine ⟨_, (pss_cons (ps_set (i := 2) sc_law_boxes.nd rfl (Or.inl rfl) (pe_lst pa_nil))
      (pss_cons (ps_set (i := 3) sc_law_boxes.nd rfl (Or.inl rfl) (pe_ix ix_list (pe_lst (pa_cons pe_int (pa_cons pe_int (pa_cons pe_int (pa_cons pe_int pa_nil))))) (pe_fn F_law_take (by decide) hr (by rfl) passE0 (pa_cons (pv 0) (pa_cons pe_int pa_nil))) (fun _ _ => rfl)))
      (pss_cons (ps_for PassesOwn.never rfl (pi_range1 (by rfl) T.b_range (pa_cons (pe_op op_add pe_int (pe_fn F_law_take (by decide) hr (by rfl) passE0 (pa_cons (pv 0) (pa_cons pe_int pa_nil)))) pa_nil)) (pg_name (i := 4) sc_law_boxes.nd rfl (Or.inl rfl)) (pss_cons (ps_set (i := 5) sc_law_boxes.nd rfl (Or.inl rfl) (pe_fn F_law_fit (by decide) hr (by rfl) passE0 (pa_cons (pe_op op_add pe_int (pe_fn F_law_take (by decide) hr (by rfl) passE0 (pa_cons (pv 0) (pa_cons (pe_op op_mulB pe_int (pv 3)) pa_nil)))) (pa_cons (pv 3) pa_nil))))
      (pss_cons (ps_set (i := 6) sc_law_boxes.nd rfl (Or.inl rfl) (pe_fn F_law_fit (by decide) hr (by rfl) passE0 (pa_cons (pe_op op_add pe_int (pe_fn F_law_take (by decide) hr (by rfl) passE0 (pa_cons (pv 0) (pa_cons (pe_op op_mulB pe_int (pv 3)) pa_nil)))) (pa_cons (pv 3) pa_nil))))
      (pss_cons (ps_set (i := 7) sc_law_boxes.nd rfl (Or.inl rfl) (pe_fn F_law_fit (by decide) hr (by rfl) passE0 (pa_cons (pe_fn F_law_take (by decide) hr (by rfl) passE0 (pa_cons (pv 0) (pa_cons (pe_op op_mulB pe_int (pv 3)) pa_nil))) (pa_cons (pv 3) pa_nil))))
      (pss_cons (ps_set (i := 8) sc_law_boxes.nd rfl (Or.inl rfl) (pe_fn F_law_fit (by decide) hr (by rfl) passE0 (pa_cons (pe_fn F_law_take (by decide) hr (by rfl) passE0 (pa_cons (pv 0) (pa_cons (pe_op op_mulB pe_int (pv 3)) pa_nil))) (pa_cons (pv 3) pa_nil))))
      (pss_cons (ps_set (i := 9) sc_law_boxes.nd rfl (Or.inl rfl) (pe_fn F_law_fit (by decide) hr (by rfl) passE0 (pa_cons (pe_op op_sub (pe_fn F_law_take (by decide) hr (by rfl) passE0 (pa_cons (pv 0) (pa_cons pe_int pa_nil))) pe_int) (pa_cons (pe_ix ix_list (pe_lst (pa_cons pe_int (pa_cons pe_int (pa_cons pe_int pa_nil)))) (pe_fn F_law_take (by decide) hr (by rfl) passE0 (pa_cons (pv 0) (pa_cons pe_int pa_nil))) (fun _ _ => rfl)) pa_nil))))
      (pss_cons (ps_set (i := 10) sc_law_boxes.nd rfl (Or.inl rfl) (pe_fn F_law_fit (by decide) hr (by rfl) passE0 (pa_cons (pe_op op_sub (pe_fn F_law_take (by decide) hr (by rfl) passE0 (pa_cons (pv 0) (pa_cons pe_int pa_nil))) pe_int) (pa_cons (pe_ix ix_list (pe_lst (pa_cons pe_int (pa_cons pe_int (pa_cons pe_int pa_nil)))) (pe_fn F_law_take (by decide) hr (by rfl) passE0 (pa_cons (pv 0) (pa_cons pe_int pa_nil))) (fun _ _ => rfl)) pa_nil))))
      (pss_cons (ps_set (i := 11) sc_law_boxes.nd rfl (Or.inl rfl) (pe_op op_add pe_int (pe_fn F_law_take (by decide) hr (by rfl) passE0 (pa_cons (pv 0) (pa_cons (pe_ix ix_list (pe_lst (pa_cons pe_int (pa_cons pe_int (pa_cons pe_int pa_nil)))) (pe_fn F_law_take (by decide) hr (by rfl) passE0 (pa_cons (pv 0) (pa_cons pe_int pa_nil))) (fun _ _ => rfl)) pa_nil)))))
      (pss_cons (ps_set (i := 12) sc_law_boxes.nd rfl (Or.inr rfl) (pe_tup (pa_cons (pv 7) (pa_cons (pv 8) (pa_cons (pv 5) (pa_cons (pv 6) (pa_cons (pv 9) (pa_cons (pv 10) (pa_cons (pv 11) pa_nil)))))))))
      (pss_one (ps_if (pw_and (pt_not (pt_val (pe_fn F_law_less (by decide) hr (by rfl) passE0 (pa_cons (pe_ix ix_tup (pv 1) pe_int (fun _ _ => rfl)) (pa_cons (pe_fn F_law_plus (by decide) hr (by rfl) passE0 (pa_cons (pv 7) (pa_cons (pv 5) pa_nil))) pa_nil))) (fun _ => rfl))) (pw_and1 (pt_not (pt_val (pe_fn F_law_less (by decide) hr (by rfl) passE0 (pa_cons (pe_ix ix_tup (pv 1) pe_int (fun _ _ => rfl)) (pa_cons (pe_fn F_law_plus (by decide) hr (by rfl) passE0 (pa_cons (pv 8) (pa_cons (pv 6) pa_nil))) pa_nil))) (fun _ => rfl))))).pt (pss_one (ps_if (@PW.pt _ _ _ (pw_and (pt_cmpR op_lt (pe_callB call_len (by rfl) T.b_len PyProof.Rows.Boot.«len» (pa_cons (pv 2) pa_nil)) pe_int (nomark _)) (pw_and1 (pt_val (pe_callB (call_all (K := K) rfl rfl) (by rfl) T.b_all PyProof.Rows.Boot.«all» (pa_cons (@pe_lc _ _ _ _ _ _ _ _ _ _ ["one"] [12] rfl (pi_list (pv 2)) rfl (by decide) rfl (by decide) rfl (by decide) (cap_one (j := 12) rfl rfl rfl rfl (.inl rfl)) (fun y c h => h) (cap_fr rfl) (fun C z Hc fp => (pe_fn F_law_apart (by decide) hr (by rfl) passE0 (pa_cons (pv 1) (pa_cons (pv 0) pa_nil)))) (fun _ => rfl)) pa_nil)) (fun _ => rfl))))) (pss_one (ps_expr (pe_bm PySem.F.plainAttrs_list PySem.F.slot_list_append PySem.F.type_list_append mt_append (pv 2) (pa_cons (pv 12) pa_nil)))) pss_nil)) pss_nil)))))))))))
      (pss_cons (@ps_if _ _ _ _ _ _ _ _ (pt_cmpR (op_eqNil (K := K) rfl (u100 hr)) (pv 2) (pe_lst pa_nil) (nomark _)) (@pss_one _ _ _ (@ps_ret _ _ _ _ (@pe_lst1 _ _ _ _ _ _ (@pe_tup7 _ _ _ _ _ _ _ _ _ _ _ _ _ _ _ _ _ _ _ _ _ _ _ _ _ _ _ _ _ _ (@pe_int2 _ _ _ _ _ _ _ _ _) (@pe_int2 _ _ _ _ _ _ _ _ _) (@pe_int2 _ _ _ _ _ _ _ _ _) (@pe_int2 _ _ _ _ _ _ _ _ _) (@pe_int2 _ _ _ _ _ _ _ _ _) (@pe_int2 _ _ _ _ _ _ _ _ _))))) pss_nil)
      (pss_one (ps_ret (pv 2))))))), ?_⟩
  have sm9 : ∀ i : Int, -(2 ^ 64) < i → i < 2 ^ 64 → Bd 9000 i := fun i h1 h2 => (Bd.small h1 h2).mono (by decide)
  refine ⟨by show 0 ≤ sizeLine; decide, ?_⟩
  intro p1 n1
  obtain ⟨H1, q1, s1, e1⟩ := newO n1 (.lst [])
  rw [q1]
  clear q1
  have nfb : p1 ≠ b := Ne.symm (ne_of_none hb n1)
  have nf0 := n1
  refine ⟨by show 4 ≤ sizeLine; decide, ?_⟩
  intro p2 n2
  obtain ⟨H2, q2, s2, e2⟩ := newO n2 (.lst [.int 1, .int 1, .int 2, .int 3])
  rw [q2]
  clear q2
  have hb2 := s2 _ _ (s1 _ _ hb)
  have nl : p2 ≠ b := Ne.symm (ne_of_none (s1 _ _ hb) n2)
  refine ⟨_, rfl, b, 4, n, rfl, hb2, by decide, sm9 _ (by decide) (by decide), fun d3 n3 H3 u3 v3 s3 hb3 => ?_⟩
  obtain ⟨bt, ebt, mbt⟩ := atI_mem [1, 1, 2, 3] d3 u3 v3
  have bbt : 1 ≤ bt ∧ bt ≤ 3 := (show ∀ z ∈ ([1, 1, 2, 3] : List Int), 1 ≤ z ∧ z ≤ 3 by decide) bt mbt
  refine ⟨p2, _, _, _, rfl, rfl, SqL.of (s3 _ _ nl e2), ebt, ?_⟩
  refine ⟨_, rfl, b, 9, n3, rfl, hb3, by decide, sm9 _ (by decide) (by decide), fun d4 n4 H4 u4 v4 s4 hb4 => ?_⟩
  have s14 : But b H H4 := (But.of (s1.trans s2)).trans (s3.trans s4)
  refine ⟨_, _, rfl, rfl, _, rfl, by omega, by omega, for_range (n := (1 + d4).toNat) (fun i σ1 H' => ∃ (r4 r5 r6 r7 r8 r9 r10 r11 r12 : Option V) (xs : List V) (ks : List Bx) (nb : Int), σ1 = [some (.ref b), some (.ref rp), some (.ref p1), some (.int bt), r4, r5, r6, r7, r8, r9, r10, r11, r12] ∧ But b H H' ∧ H' b = some (.lst [.int nb]) ∧ H' p1 = some (.lst xs) ∧ Al2 (BxH H') xs ks ∧ xs.length ≤ 6)
    ⟨_, _, _, _, _, _, _, _, _, [], [], n4, rfl, s14, hb4, s4 _ _ nfb (s3 _ _ nfb (s2 _ _ e1)), trivial, by decide⟩ ?_ ?_⟩
  · rintro i σ1 H5 hi5 ⟨r4, r5, r6, r7, r8, r9, r10, r11, r12, xs, ks, nb, rfl, s5, hb5, hf5, al5, lx⟩
    have hrm5 : SqT K H5 rp [.ref r0, .ref r1] := But.tup s5 hb (SqT.of hrm)
    have gr05 := FH.but s5 hb gr0
    have gr15 := FH.but s5 hb gr1
    refine ⟨_, rfl, _, rfl, _, _, rfl, rfl, ((Bd.small (i := (3 : Int)) (by decide) (by decide)).ok (Bd.small (i := bt) (by omega) (by omega)) (by decide)), _, _, _, rfl, hb5, (by first | omega | exact Int.mul_pos (by omega) (by omega)), ((Bd.mul (Bd.small (i := (3 : Int)) (by decide) (by decide)) (Bd.small (i := bt) (by omega) (by omega))).mono (by decide)), fun d500 n500 H500 lo500 hi500 s500 hb500 => ?_⟩
    refine ⟨_, _, rfl, rfl, _, rfl, _, _, rfl, ((Bd.small (i := bt) (by omega) (by omega)).mono (by decide)), (by omega), fun p_r501 H501 s501 g_r501 => ?_⟩
    have hB502 := s501 _ _ hb500
    have d_r501 : FB 65 (Rat.divInt (((1 : Int) + d500)) bt) := (FB.mono (FB.fit (by omega) ((Bd.add ((Bd.small (i := (1 : Int)) (by decide) (by decide)).mono (n := 64) (by decide)) ((Bd.small (i := d500) (by omega) (by omega)).mono (n := 64) (by decide))).mono (n := 65) (by decide)) ((Bd.small (i := bt) (by omega) (by omega)).mono (n := 65) (by decide))) (by decide))
    refine ⟨_, rfl, _, rfl, _, _, rfl, rfl, ((Bd.small (i := (3 : Int)) (by decide) (by decide)).ok (Bd.small (i := bt) (by omega) (by omega)) (by decide)), _, _, _, rfl, hB502, (by first | omega | exact Int.mul_pos (by omega) (by omega)), ((Bd.mul (Bd.small (i := (3 : Int)) (by decide) (by decide)) (Bd.small (i := bt) (by omega) (by omega))).mono (by decide)), fun d503 n503 H503 lo503 hi503 s503 hb503 => ?_⟩
    refine ⟨_, _, rfl, rfl, _, rfl, _, _, rfl, ((Bd.small (i := bt) (by omega) (by omega)).mono (by decide)), (by omega), fun p_r504 H504 s504 g_r504 => ?_⟩
    have hB505 := s504 _ _ hb503
    have d_r504 : FB 65 (Rat.divInt (((1 : Int) + d503)) bt) := (FB.mono (FB.fit (by omega) ((Bd.add ((Bd.small (i := (1 : Int)) (by decide) (by decide)).mono (n := 64) (by decide)) ((Bd.small (i := d503) (by omega) (by omega)).mono (n := 64) (by decide))).mono (n := 65) (by decide)) ((Bd.small (i := bt) (by omega) (by omega)).mono (n := 65) (by decide))) (by decide))
    refine ⟨_, rfl, _, rfl, _, _, rfl, rfl, ((Bd.small (i := (12 : Int)) (by decide) (by decide)).ok (Bd.small (i := bt) (by omega) (by omega)) (by decide)), _, _, _, rfl, hB505, (by first | omega | exact Int.mul_pos (by omega) (by omega)), ((Bd.mul (Bd.small (i := (12 : Int)) (by decide) (by decide)) (Bd.small (i := bt) (by omega) (by omega))).mono (by decide)), fun d506 n506 H506 lo506 hi506 s506 hb506 => ?_⟩
    refine ⟨_, rfl, _, _, rfl, ((Bd.small (i := bt) (by omega) (by omega)).mono (by decide)), (by omega), fun p_r507 H507 s507 g_r507 => ?_⟩
    have hB508 := s507 _ _ hb506
    have d_r507 : FB 64 (Rat.divInt d506 bt) := (FB.mono (FB.fit (by omega) ((Bd.small (i := d506) (by omega) (by omega)).mono (n := 64) (by decide)) ((Bd.small (i := bt) (by omega) (by omega)).mono (n := 64) (by decide))) (by decide))
    refine ⟨_, rfl, _, rfl, _, _, rfl, rfl, ((Bd.small (i := (10 : Int)) (by decide) (by decide)).ok (Bd.small (i := bt) (by omega) (by omega)) (by decide)), _, _, _, rfl, hB508, (by first | omega | exact Int.mul_pos (by omega) (by omega)), ((Bd.mul (Bd.small (i := (10 : Int)) (by decide) (by decide)) (Bd.small (i := bt) (by omega) (by omega))).mono (by decide)), fun d509 n509 H509 lo509 hi509 s509 hb509 => ?_⟩
    refine ⟨_, rfl, _, _, rfl, ((Bd.small (i := bt) (by omega) (by omega)).mono (by decide)), (by omega), fun p_r510 H510 s510 g_r510 => ?_⟩
    have hB511 := s510 _ _ hb509
    have d_r510 : FB 64 (Rat.divInt d509 bt) := (FB.mono (FB.fit (by omega) ((Bd.small (i := d509) (by omega) (by omega)).mono (n := 64) (by decide)) ((Bd.small (i := bt) (by omega) (by omega)).mono (n := 64) (by decide))) (by decide))
    refine ⟨_, rfl, _, _, _, rfl, hB511, (by decide +kernel), ((Bd.small (i := (9 : Int)) (by decide) (by decide)).mono (by decide)), fun d512 n512 H512 lo512 hi512 s512 hb512 => ?_⟩
    refine ⟨_, _, rfl, rfl, by show 3 ≤ sizeLine; decide, ?_⟩
    intro p513 n513
    obtain ⟨H513, q513, s513, e513⟩ := newO n513 (.lst [.int ((1 : Int)), .int ((1 : Int)), .int ((2 : Int))])
    rw [q513]
    clear q513
    have hB514 := s513 _ _ hb512
    have h513 := SqL.of (K := K) e513
    have ap513 : p513 ≠ b := fun z => by rw [z, hb512] at n513; cases n513
    refine ⟨_, rfl, _, _, _, rfl, hB514, (by decide +kernel), ((Bd.small (i := (3 : Int)) (by decide) (by decide)).mono (by decide)), fun d515 n515 H515 lo515 hi515 s515 hb515 => ?_⟩
    obtain ⟨v516, ev516, m517⟩ := atI_mem ([(1 : Int), (1 : Int), (2 : Int)] : List Int) d515 (by omega) (by show _ < (3 : Int); omega)
    have bv516 : 1 ≤ v516 ∧ v516 ≤ 2 := (show ∀ z ∈ ([(1 : Int), (1 : Int), (2 : Int)] : List Int), 1 ≤ z ∧ z ≤ 2 by decide +kernel) v516 m517
    replace h513 := (But.seq s515 ap513 h513)
    refine ⟨p513, _, _, _, rfl, rfl, h513, ev516, _, _, rfl, ((Bd.small (i := v516) (by omega) (by omega)).mono (by decide)), (by omega), fun p_r518 H518 s518 g_r518 => ?_⟩
    have hB519 := s518 _ _ hb515
    have d_r518 : FB 65 (Rat.divInt ((d512 - (4 : Int))) v516) := (FB.mono (FB.fit (by omega) ((Bd.sub ((Bd.small (i := d512) (by omega) (by omega)).mono (n := 64) (by decide)) ((Bd.small (i := (4 : Int)) (by decide) (by decide)).mono (n := 64) (by decide))).mono (n := 65) (by decide)) ((Bd.small (i := v516) (by omega) (by omega)).mono (n := 65) (by decide))) (by decide))
    refine ⟨_, rfl, _, _, _, rfl, hB519, (by decide +kernel), ((Bd.small (i := (9 : Int)) (by decide) (by decide)).mono (by decide)), fun d520 n520 H520 lo520 hi520 s520 hb520 => ?_⟩
    refine ⟨_, _, rfl, rfl, by show 3 ≤ sizeLine; decide, ?_⟩
    intro p521 n521
    obtain ⟨H521, q521, s521, e521⟩ := newO n521 (.lst [.int ((1 : Int)), .int ((1 : Int)), .int ((2 : Int))])
    rw [q521]
    clear q521
    have hB522 := s521 _ _ hb520
    have h521 := SqL.of (K := K) e521
    have ap521 : p521 ≠ b := fun z => by rw [z, hb520] at n521; cases n521
    refine ⟨_, rfl, _, _, _, rfl, hB522, (by decide +kernel), ((Bd.small (i := (3 : Int)) (by decide) (by decide)).mono (by decide)), fun d523 n523 H523 lo523 hi523 s523 hb523 => ?_⟩
    obtain ⟨v524, ev524, m525⟩ := atI_mem ([(1 : Int), (1 : Int), (2 : Int)] : List Int) d523 (by omega) (by show _ < (3 : Int); omega)
    have bv524 : 1 ≤ v524 ∧ v524 ≤ 2 := (show ∀ z ∈ ([(1 : Int), (1 : Int), (2 : Int)] : List Int), 1 ≤ z ∧ z ≤ 2 by decide +kernel) v524 m525
    replace h521 := (But.seq s523 ap521 h521)
    refine ⟨p521, _, _, _, rfl, rfl, h521, ev524, _, _, rfl, ((Bd.small (i := v524) (by omega) (by omega)).mono (by decide)), (by omega), fun p_r526 H526 s526 g_r526 => ?_⟩
    have hB527 := s526 _ _ hb523
    have d_r526 : FB 65 (Rat.divInt ((d520 - (4 : Int))) v524) := (FB.mono (FB.fit (by omega) ((Bd.sub ((Bd.small (i := d520) (by omega) (by omega)).mono (n := 64) (by decide)) ((Bd.small (i := (4 : Int)) (by decide) (by decide)).mono (n := 64) (by decide))).mono (n := 65) (by decide)) ((Bd.small (i := v524) (by omega) (by omega)).mono (n := 65) (by decide))) (by decide))
    refine ⟨_, rfl, by show 3 ≤ sizeLine; decide, ?_⟩
    intro p528 n528
    obtain ⟨H528, q528, s528, e528⟩ := newO n528 (.lst [.int ((4 : Int)), .int ((4 : Int)), .int ((1000 : Int))])
    rw [q528]
    clear q528
    have hB529 := s528 _ _ hB527
    have h528 := SqL.of (K := K) e528
    have ap528 : p528 ≠ b := fun z => by rw [z, hB527] at n528; cases n528
    refine ⟨_, rfl, _, _, _, rfl, hB529, (by decide +kernel), ((Bd.small (i := (3 : Int)) (by decide) (by decide)).mono (by decide)), fun d530 n530 H530 lo530 hi530 s530 hb530 => ?_⟩
    obtain ⟨v531, ev531, m532⟩ := atI_mem ([(4 : Int), (4 : Int), (1000 : Int)] : List Int) d530 (by omega) (by show _ < (3 : Int); omega)
    have bv531 : 4 ≤ v531 ∧ v531 ≤ 1000 := (show ∀ z ∈ ([(4 : Int), (4 : Int), (1000 : Int)] : List Int), 4 ≤ z ∧ z ≤ 1000 by decide +kernel) v531 m532
    replace h528 := (But.seq s530 ap528 h528)
    refine ⟨p528, _, _, _, rfl, rfl, h528, ev531, _, _, _, rfl, hb530, (by first | omega | exact Int.mul_pos (by omega) (by omega)), ((Bd.small (i := v531) (by omega) (by omega)).mono (by decide)), fun d533 n533 H533 lo533 hi533 s533 hb533 => ?_⟩
    refine ⟨_, _, rfl, rfl, ?_⟩
    replace g_r507 := (FH.but s533 hb530 (FH.but s530 hB529 (FH.same s528 (FH.same s526 (FH.but s523 hB522 (FH.same s521 (FH.but s520 hB519 (FH.same s518 (FH.but s515 hB514 (FH.same s513 (FH.but s512 hB511 (FH.same s510 (FH.but s509 hB508 g_r507)))))))))))))
    replace g_r510 := (FH.but s533 hb530 (FH.but s530 hB529 (FH.same s528 (FH.same s526 (FH.but s523 hB522 (FH.same s521 (FH.but s520 hB519 (FH.same s518 (FH.but s515 hB514 (FH.same s513 (FH.but s512 hB511 g_r510)))))))))))
    replace g_r501 := (FH.but s533 hb530 (FH.but s530 hB529 (FH.same s528 (FH.same s526 (FH.but s523 hB522 (FH.same s521 (FH.but s520 hB519 (FH.same s518 (FH.but s515 hB514 (FH.same s513 (FH.but s512 hB511 (FH.same s510 (FH.but s509 hB508 (FH.same s507 (FH.but s506 hB505 (FH.same s504 (FH.but s503 hB502 g_r501)))))))))))))))))
    replace g_r504 := (FH.but s533 hb530 (FH.but s530 hB529 (FH.same s528 (FH.same s526 (FH.but s523 hB522 (FH.same s521 (FH.but s520 hB519 (FH.same s518 (FH.but s515 hB514 (FH.same s513 (FH.but s512 hB511 (FH.same s510 (FH.but s509 hB508 (FH.same s507 (FH.but s506 hB505 g_r504)))))))))))))))
    replace g_r518 := (FH.but s533 hb530 (FH.but s530 hB529 (FH.same s528 (FH.same s526 (FH.but s523 hB522 (FH.same s521 (FH.but s520 hB519 g_r518)))))))
    replace g_r526 := (FH.but s533 hb530 (FH.but s530 hB529 (FH.same s528 g_r526)))
    replace hrm5 := (But.tup s533 hb530 (But.tup s530 hB529 (Kw.Same.tup s528 (Kw.Same.tup s526 (But.tup s523 hB522 (Kw.Same.tup s521 (But.tup s520 hB519 (Kw.Same.tup s518 (But.tup s515 hB514 (Kw.Same.tup s513 (But.tup s512 hB511 (Kw.Same.tup s510 (But.tup s509 hB508 (Kw.Same.tup s507 (But.tup s506 hB505 (Kw.Same.tup s504 (But.tup s503 hB502 (Kw.Same.tup s501 (But.tup s500 hb5 hrm5)))))))))))))))))))
    replace gr05 := (FH.but s533 hb530 (FH.but s530 hB529 (FH.same s528 (FH.same s526 (FH.but s523 hB522 (FH.same s521 (FH.but s520 hB519 (FH.same s518 (FH.but s515 hB514 (FH.same s513 (FH.but s512 hB511 (FH.same s510 (FH.but s509 hB508 (FH.same s507 (FH.but s506 hB505 (FH.same s504 (FH.but s503 hB502 (FH.same s501 (FH.but s500 hb5 gr05)))))))))))))))))))
    replace gr15 := (FH.but s533 hb530 (FH.but s530 hB529 (FH.same s528 (FH.same s526 (FH.but s523 hB522 (FH.same s521 (FH.but s520 hB519 (FH.same s518 (FH.but s515 hB514 (FH.same s513 (FH.but s512 hB511 (FH.same s510 (FH.but s509 hB508 (FH.same s507 (FH.but s506 hB505 (FH.same s504 (FH.but s503 hB502 (FH.same s501 (FH.but s500 hb5 gr15)))))))))))))))))))
    have sC : But b H5 H533 := (s500.trans ((But.of s501).trans (s503.trans ((But.of s504).trans (s506.trans ((But.of s507).trans (s509.trans ((But.of s510).trans (s512.trans ((But.of s513).trans (s515.trans ((But.of s518).trans (s520.trans ((But.of s521).trans (s523.trans ((But.of s526).trans ((But.of s528).trans (s530.trans s533))))))))))))))))))
    have hfC := sC _ _ nfb hf5
    have alC : Al2 (BxH H533) xs ks := Al2.imp (fun _ _ z => z.but sC hb5) al5
    have pw : (0 : Rat) < (Rat.divInt (((1 : Int) + d500)) bt) := q_divpos (by omega) (by omega)
    have ph : (0 : Rat) < (Rat.divInt (((1 : Int) + d503)) bt) := q_divpos (by omega) (by omega)
    refine ⟨_, rfl, _, rfl, _, rfl, _, rfl, _, rfl, _, rfl, _, rfl, by show 7 ≤ sizeLine; decide, ?_⟩
    intro p900 n900
    obtain ⟨H900, q900, s900, e900⟩ := newO n900 (.tup [.ref p_r507, .ref p_r510, .ref p_r501, .ref p_r504, .ref p_r518, .ref p_r526, .int (((1 : Int) + d533))])
    rw [q900]
    clear q900
    have one : BxH H900 (.ref p900) ⟨(Rat.divInt d506 bt), (Rat.divInt d509 bt), (Rat.divInt (((1 : Int) + d500)) bt), (Rat.divInt (((1 : Int) + d503)) bt), (Rat.divInt ((d512 - (4 : Int))) v516), (Rat.divInt ((d520 - (4 : Int))) v524), (((1 : Int) + d533))⟩ := ⟨p900, _, _, _, _, _, _, rfl, e900, ⟨FH.same s900 g_r507, FH.same s900 g_r510, FH.same s900 g_r501, FH.same s900 g_r504, FH.same s900 g_r518, FH.same s900 g_r526⟩, ⟨FB.mono d_r507 (by decide), FB.mono d_r510 (by decide), FB.mono d_r501 (by decide), FB.mono d_r504 (by decide), FB.mono d_r518 (by decide), FB.mono d_r526 (by decide)⟩, pw, ph, Bd.small (i := (((1 : Int) + d533))) (by omega) (by omega)⟩
    have inv : ∀ H', Same H900 H' → ∃ m : Int, But b H H' ∧ H' b = some (.lst [.int m]) ∧ H' p1 = some (.lst xs) ∧ Al2 (BxH H') xs ks := fun H' sm => by
      have s7 := s900.trans sm
      exact ⟨_, s5.trans (sC.trans (.of s7)), s7 _ _ hb533, s7 _ _ hfC, Al2.imp (fun _ _ z => z.same s7) alC⟩
    have hrm7 := Kw.Same.tup s900 hrm5
    refine ⟨_, rfl, rp, _, _, _, rfl, rfl, hrm7, rfl, _, rfl, _, rfl, _, _, _, _, rfl, FH.fq (FH.same s900 g_r507), FB.mono d_r507 (by decide), FH.fq (FH.same s900 g_r501), FB.mono d_r501 (by decide), fun r71 H71 s71 e71 => ?_⟩
    refine ⟨_, _, _, _, rfl, FH.fq (FH.same (s900.trans s71) gr05), dr0.mono (by decide), e71, (FB.add d_r507 d_r501).mono (by decide), fun H72 s72 => ⟨_, rfl, ?_⟩⟩
    have t72 := s71.trans s72
    refine if_not (fun cA => ?_) (fun cA => ?_)
    rotate_left
    · refine iteF ?_
      obtain ⟨m, z1, z2, z3, z4⟩ := inv _ t72
      exact ⟨_, _, _, _, _, _, _, _, _, xs, ks, m, rfl, z1, z2, z3, z4, lx⟩
    have hrm72 := Kw.Same.tup t72 hrm7
    have u72 := s900.trans t72
    refine ⟨_, rfl, rp, _, _, _, rfl, rfl, hrm72, rfl, _, rfl, _, rfl, _, _, _, _, rfl, FH.fq (FH.same u72 g_r510), FB.mono d_r510 (by decide), FH.fq (FH.same u72 g_r504), FB.mono d_r504 (by decide), fun r73 H73 s73 e73 => ?_⟩
    refine ⟨_, _, _, _, rfl, FH.fq (FH.same (u72.trans s73) gr15), dr1.mono (by decide), e73, (FB.add d_r510 d_r504).mono (by decide), fun H74 s74 => ⟨_, rfl, ?_⟩⟩
    have t74 := t72.trans (s73.trans s74)
    refine if_not (fun cB => ?_) (fun cB => ?_)
    rotate_left
    · obtain ⟨m, z1, z2, z3, z4⟩ := inv _ t74
      exact ⟨_, _, _, _, _, _, _, _, _, xs, ks, m, rfl, z1, z2, z3, z4, lx⟩
    obtain ⟨m74, b74, hb74, hf74, al74⟩ := inv _ t74
    refine ⟨_, rfl, _, _, rfl, .inl ⟨_, SqL.of hf74, rfl⟩, _, _, rfl, rfl, _, rfl, ?_⟩
    refine if_dec (fun c6 => ?_) (fun c6 => ?_)
    rotate_left
    · exact iteF ⟨_, _, _, _, _, _, _, _, _, xs, ks, m74, rfl, b74, hb74, hf74, al74, lx⟩
    refine ⟨_, rfl, p1, rfl, ⟨_, SqL.of hf74⟩, lc_list (K := K) (xs := xs) (fun i ys H' => Same H74 H' ∧ ∃ cs : List Bool, ys = cs.map V.bl ∧ cs.length = i) ⟨Same.refl _, [], rfl, rfl⟩ (by rw [sizeLine_eq]; omega) (fun i ys H' ⟨_, cs, e, l⟩ => by rw [e, List.length_map]; exact l) (fun i ys H' ⟨g, _⟩ => SqL.of (g _ _ hf74)) ?_ ?_⟩
    · rintro i y ys H' Q' hy ⟨g, cs, rfl, lc⟩ kk
      obtain ⟨kb, hkb, hbx⟩ := Al2.get al74 hy
      refine ⟨_, rfl, _, rfl, _, _, _, kb, rfl, (one.same (t74.trans g)).toS, (hbx.same g).toS, fun H2' s2' => kk _ _ ⟨g.trans s2', cs ++ [_], by rw [List.map_append]; rfl, by rw [List.length_append, lc]; rfl⟩⟩
    · rintro ys H' ⟨g, cs, rfl, lc⟩
      intro p75 n75
      obtain ⟨H75, q75, s75, e75⟩ := newO n75 (.lst (cs.map V.bl))
      rw [q75]
      clear q75
      have t75 := t74.trans (g.trans s75)
      obtain ⟨m75, b75, hb75, hf75, al75⟩ := inv _ t75
      refine ⟨p75, cs, rfl, SqL.of e75, _, rfl, ?_⟩
      generalize cs.all id = ca
      cases ca with
      | false => exact iteF ⟨_, _, _, _, _, _, _, _, _, xs, ks, m75, rfl, b75, hb75, hf75, al75, lx⟩
      | true =>
        refine iteT ⟨_, rfl, .inl ⟨rfl, _, SqL.of hf75⟩, _, rfl, p1, _, _, rfl, rfl, hf75, by rw [sizeLine_eq]; omega, ?_⟩
        obtain ⟨H76, q76, s76, e76⟩ := newB (H := H75) (p := p1) (.lst (xs ++ [.ref p900]))
        dsimp only
        rw [q76]
        clear q76
        have all76 : But b H H76 := fun a o na ho => s76 a o (ne_of_none ho nf0) (b75 a o na ho)
        exact ⟨_, _, _, _, _, _, _, _, _, xs ++ [.ref p900], _, m75, rfl, all76, s76 _ _ (Ne.symm nfb) hb75, e76, Al2.imp (fun _ _ z => z.but s76 hf75) (Al2.snoc al75 (one.same t75)), by rw [List.length_append]; simp only [List.length_cons, List.length_nil]; omega⟩
  · rintro σ1 H5 ⟨r4, r5, r6, r7, r8, r9, r10, r11, r12, xs, ks, nb, rfl, s5, hb5, hf5, al5, lx⟩
    refine ⟨_, rfl, by show 0 ≤ sizeLine; decide, ?_⟩
    intro p80 n80
    obtain ⟨H80, q80, s80, e80⟩ := newO n80 (.lst [])
    rw [q80]
    clear q80
    refine ⟨p1, p80, xs, rfl, rfl, SqL.of (s80 _ _ hf5), SqL.of e80, _, rfl, ?_⟩
    cases xs with
    | nil =>
      refine iteT ?_
      refine ⟨by show 2 ≤ sizeLine; decide, ?_⟩
      intro p81 n81
      obtain ⟨H81, q81, s81, e81⟩ := newO n81 (.tup [.int 1, .int 1])
      rw [q81]
      clear q81
      refine ⟨by show 2 ≤ sizeLine; decide, ?_⟩
      intro p82 n82
      obtain ⟨H82, q82, s82, e82⟩ := newO n82 (.tup [.int 1, .int 1])
      rw [q82]
      clear q82
      refine ⟨by show 2 ≤ sizeLine; decide, ?_⟩
      intro p83 n83
      obtain ⟨H83, q83, s83, e83⟩ := newO n83 (.tup [.int 1, .int 1])
      rw [q83]
      clear q83
      refine ⟨by show 2 ≤ sizeLine; decide, ?_⟩
      intro p84 n84
      obtain ⟨H84, q84, s84, e84⟩ := newO n84 (.tup [.int 1, .int 2])
      rw [q84]
      clear q84
      refine ⟨by show 2 ≤ sizeLine; decide, ?_⟩
      intro p85 n85
      obtain ⟨H85, q85, s85, e85⟩ := newO n85 (.tup [.int 1, .int 1])
      rw [q85]
      clear q85
      refine ⟨by show 2 ≤ sizeLine; decide, ?_⟩
      intro p86 n86
      obtain ⟨H86, q86, s86, e86⟩ := newO n86 (.tup [.int 2, .int 1])
      rw [q86]
      clear q86
      refine ⟨by show 7 ≤ sizeLine; decide, ?_⟩
      intro p87 n87
      obtain ⟨H87, q87, s87, e87⟩ := newO n87 (.tup [.ref p81, .ref p82, .ref p83, .ref p84, .ref p85, .ref p86, .int 3])
      rw [q87]
      clear q87
      refine ⟨by show 1 ≤ sizeLine; decide, ?_⟩
      intro p88 n88
      obtain ⟨H88, q88, s88, e88⟩ := newO n88 (.lst [.ref p87])
      rw [q88]
      clear q88
      have t87 := s88
      have t86 := s87.trans t87
      have t85 := s86.trans t86
      have t84 := s85.trans t85
      have t83 := s84.trans t84
      have t82 := s83.trans t83
      have t81 := s82.trans t82
      have t80 := s80.trans (s81.trans t81)
      have nlb : p88 ≠ b := Ne.symm (ne_of_none ((s80.trans (s81.trans (s82.trans (s83.trans (s84.trans (s85.trans (s86.trans s87))))))) _ _ hb5) n88)
      have fb1 : FB 500 (((1 : Int)) : Rat) := (FB.ofInt (n := 64) (Bd.small (by decide) (by decide)) (by decide)).mono (by decide)
      have fb2 : FB 500 (((2 : Int)) : Rat) := (FB.ofInt (n := 64) (Bd.small (by decide) (by decide)) (by decide)).mono (by decide)
      have fbh : FB 500 (Rat.divInt 1 2) := (FB.fit (n := 64) (by decide) (Bd.small (by decide) (by decide)) (Bd.small (by decide) (by decide))).mono (by decide)
      have bx : BxH H88 (.ref p87) ⟨((1 : Int) : Rat), ((1 : Int) : Rat), ((1 : Int) : Rat), Rat.divInt 1 2, ((1 : Int) : Rat), ((2 : Int) : Rat), 3⟩ := ⟨p87, _, _, _, _, _, _, rfl, t87 _ _ e87, ⟨FH.ofInt (t81 _ _ e81), FH.ofInt (t82 _ _ e82), FH.ofInt (t83 _ _ e83), FH.lit (t84 _ _ e84) (by decide) (by decide), FH.ofInt (t85 _ _ e85), FH.ofInt (t86 _ _ e86)⟩, ⟨fb1, fb1, fb1, fbh, fb1, fb2⟩, by decide, q_divpos (by decide) (by decide), Bd.small (by decide) (by decide)⟩
      exact q p88 [.ref p87] [_] nb H88 (s5.trans (.of t80)) (t80 _ _ hb5) nlb e88 ⟨bx, trivial⟩ (by simp) (by simp)
    | cons x xr =>
      refine iteF ⟨_, rfl, ?_⟩
      exact q p1 _ ks nb H80 (s5.trans (.of s80)) (s80 _ _ hb5) nfb (s80 _ _ hf5) (Al2.imp (fun _ _ z => z.same s80) al5) (by simp) lx
theorem sc_law : FnScope ["script", "k", "box", "room", "boxes", "odd", "thing", "found", "lows", "one", "other", "turn", "due", "left"] ["script"] (defScope (top 41)) := ⟨rfl, rfl, rfl, by decide +kernel, rfl, by decide +kernel, by decide +kernel⟩
theorem ok_law (D : Df K mg "law" (top 41) ["script"]) (T : Tx K mg) (F_law_box : Fn P w K mg base 2 "_law_box" ["script", "k"] (spBox K)) (F_law_room : Fn P w K mg base 2 "_law_room" ["box"] spRoomD) (F_law_boxes : Fn P w K mg base 4 "_law_boxes" ["box", "room"] spBoxes) (F_law_odd : Fn P w K mg base 2 "_law_odd" ["box"] spOdd) (F_law_spoilt : Fn P w K mg base 2 "_law_spoilt" ["box", "one", "odd"] spSpoilt) (F_is_box : Fn P w K mg base 4 "is_box" ["thing"] (spBoxC K)) (F_law_box_due : Fn P w K mg base 3 "_law_box_due" ["thing"] (spBoxC K)) (F_is_room : Fn P w K mg base 4 "is_room" ["thing"] (spRoomC K)) (F_law_room_due : Fn P w K mg base 3 "_law_room_due" ["thing"] (spRoomC K)) (F_overlap : Fn P w K mg base 5 "overlap" ["one", "other"] (spOv K)) (F_law_overlap : Fn P w K mg base 4 "_law_overlap" ["one", "other"] (spOv K)) (F_law_plus : Fn P w K mg base 2 "_law_plus" ["one", "other"] (sp_law_plus K)) (F_law_fit : Fn P w K mg base 1 "_law_fit" ["top", "bottom"] (sp_law_fit K)) (F_law_take : Fn P w K mg base 1 "_law_take" ["box", "many"] spTake) : Fn P w K mg base 6 "law" ["script"] (spLaw K) := by
  refine D.ok0 sc_law (fun vs H Q E h => ?_) (fun f cdv A outer s H vs Q E hr h => ?_)
  · obtain ⟨a, rfl, _⟩ := h
    rfl
  obtain ⟨a, rfl, hS, fin⟩ := h
  refine ⟨_, (pss_cons (ps_for PassesOwn.never rfl (pi_range1 (by rfl) T.b_range (pa_cons (pe_callB (call_max2 rfl) (by rfl) T.b_max PyProof.Rows.Boot.«max» (pa_cons pe_int (pa_cons (pe_callB (call_min2 rfl) (by rfl) T.b_min PyProof.Rows.Boot.«min» (pa_cons (pe_callB call_len (by rfl) T.b_len PyProof.Rows.Boot.«len» (pa_cons (pv 0) pa_nil)) (pa_cons pe_int pa_nil))) pa_nil))) pa_nil)) (pg_name (i := 1) sc_law.nd rfl (Or.inl rfl)) (pss_cons (ps_set (i := 2) sc_law.nd rfl (Or.inr rfl) (pe_fn F_law_box (by decide) hr (by rfl) passE0 (pa_cons (pv 0) (pa_cons (pv 1) pa_nil))))
      (pss_cons (ps_set (i := 3) sc_law.nd rfl (Or.inl rfl) (pe_fn F_law_room (by decide) hr (by rfl) passE0 (pa_cons (pv 2) pa_nil)))
      (pss_cons (ps_set (i := 4) sc_law.nd rfl (Or.inl rfl) (pe_fn F_law_boxes (by decide) hr (by rfl) passE0 (pa_cons (pv 2) (pa_cons (pv 3) pa_nil))))
      (pss_cons (ps_set (i := 5) sc_law.nd rfl (Or.inr rfl) (pe_fn F_law_odd (by decide) hr (by rfl) passE0 (pa_cons (pv 2) pa_nil)))
      (pss_cons (ps_for PassesOwn.never rfl (pi_list (pe_op op_cat (pe_op op_cat (pv 4) (@pe_lc _ _ _ _ _ _ _ _ _ _ ["box", "odd"] [2, 5] rfl (pi_list (pv 4)) rfl (by decide) rfl (by decide) rfl (by decide) (cap_two (j := 2) (j' := 5) rfl rfl rfl rfl (.inl rfl) rfl rfl rfl rfl (.inl rfl)) (cl_two rfl rfl) (cap_fr rfl) (fun C z Hc fp => (pe_fn F_law_spoilt (by decide) hr (by rfl) passE0 (pa_cons (pv 1) (pa_cons (pv 0) (pa_cons (pv 2) pa_nil))))) (fun _ => rfl))) (pe_lst (pa_cons (pv 5) (pa_cons (pv 3) (pa_cons (pe_op op_repT (pe_tup (pa_cons (pv 5) pa_nil)) pe_int) pa_nil)))))) (pg_name (i := 6) sc_law.nd rfl (Or.inl rfl)) (pss_cons (ps_set (i := 7) sc_law.nd rfl (Or.inl rfl) (pe_fn F_is_box (by decide) hr (by rfl) passE0 (pa_cons (pv 6) pa_nil)))
      (pss_one (ps_if (pw_or (pt_not (pt_val (pe_callB call_isinst (by rfl) T.b_isinstance PyProof.Rows.Boot.«isinstance» (pa_cons (pv 7) (pa_cons (pe_bty (by rfl) T.b_bool PyProof.Rows.Boot.«bool») pa_nil))) (fun _ => rfl))) (pw_or1 (pt_cmpR op_ne (pv 7) (pe_fn F_law_box_due (by decide) hr (by rfl) passE0 (pa_cons (pv 6) pa_nil)) (nomark _)))).pt (pss_one (ps_ret pe_bl)) pss_nil))))
      (pss_cons (ps_set (i := 8) sc_law.nd rfl (Or.inl rfl) (pe_lst (pa_cons (pe_tup (pa_cons (pe_ix ix_tup (pv 3) pe_int (fun _ _ => rfl)) (pa_cons (pe_tup (pa_cons pe_int (pa_cons pe_int pa_nil))) pa_nil))) (pa_cons (pe_tup (pa_cons (pe_tup (pa_cons (pe_op op_sub pe_int (pe_ix ix_tup (pe_ix ix_tup (pv 3) pe_int (fun _ _ => rfl)) pe_int (fun _ _ => rfl))) (pa_cons pe_int pa_nil))) (pa_cons (pe_ix ix_tup (pv 3) pe_int (fun _ _ => rfl)) pa_nil))) (pa_cons (pe_callTy call_list_of (by rfl) T.b_list PyProof.Rows.Boot.«list» (pa_cons (pv 3) pa_nil)) (pa_cons (pe_tup (pa_cons (pe_ix ix_tup (pv 3) pe_int (fun _ _ => rfl)) pa_nil)) (pa_cons (pe_op op_catB (pv 3) (pe_tup (pa_cons (pe_ix ix_tup (pv 3) pe_int (fun _ _ => rfl)) pa_nil))) pa_nil)))))))
      (pss_cons (ps_for PassesOwn.never rfl (pi_list (pe_op op_cat (pe_lst (pa_cons (pv 3) (pa_cons (pv 5) (pa_cons (pe_tup (pa_cons (pv 5) (pa_cons (pe_ix ix_tup (pv 3) pe_int (fun _ _ => rfl)) pa_nil))) (pa_cons (pe_tup (pa_cons (pe_ix ix_tup (pv 3) pe_int (fun _ _ => rfl)) (pa_cons (pv 5) pa_nil))) (pa_cons (pe_ix ix_list (pv 4) pe_int (fun _ _ => rfl)) pa_nil)))))) (pv 8))) (pg_name (i := 6) sc_law.nd rfl (Or.inl rfl)) (pss_cons (ps_set (i := 7) sc_law.nd rfl (Or.inl rfl) (pe_fn F_is_room (by decide) hr (by rfl) passE0 (pa_cons (pv 6) pa_nil)))
      (pss_one (ps_if (pw_or (pt_not (pt_val (pe_callB call_isinst (by rfl) T.b_isinstance PyProof.Rows.Boot.«isinstance» (pa_cons (pv 7) (pa_cons (pe_bty (by rfl) T.b_bool PyProof.Rows.Boot.«bool») pa_nil))) (fun _ => rfl))) (pw_or1 (pt_cmpR op_ne (pv 7) (pe_fn F_law_room_due (by decide) hr (by rfl) passE0 (pa_cons (pv 6) pa_nil)) (nomark _)))).pt (pss_one (ps_ret pe_bl)) pss_nil))))
      (pss_cons (ps_par (i := 9) (j := 10) rfl sc_law.nd rfl rfl (by decide) rfl rfl (pa_cons (pe_ix ix_list (pv 4) pe_int (fun _ _ => rfl)) (pa_cons (pe_ix ix_list (pv 4) (pe_un un_neg pe_int) (fun _ _ => rfl)) pa_nil)) rfl)
      (pss_one (ps_for PassesOwn.never rfl (pi_range1 (by rfl) T.b_range (pa_cons pe_int pa_nil)) (pg_name (i := 11) sc_law.nd rfl (Or.inl rfl)) (pss_cons (ps_set (i := 7) sc_law.nd rfl (Or.inl rfl) (pe_lst (pa_cons (pe_fn F_overlap (by decide) hr (by rfl) passE0 (pa_cons (pv 9) (pa_cons (pv 10) pa_nil))) (pa_cons (pe_fn F_overlap (by decide) hr (by rfl) passE0 (pa_cons (pv 10) (pa_cons (pv 9) pa_nil))) (pa_cons (pe_fn F_overlap (by decide) hr (by rfl) passE0 (pa_cons (pv 9) (pa_cons (pv 9) pa_nil))) pa_nil)))))
      (pss_cons (ps_set (i := 12) sc_law.nd rfl (Or.inl rfl) (pe_fn F_law_overlap (by decide) hr (by rfl) passE0 (pa_cons (pv 9) (pa_cons (pv 10) pa_nil))))
      (pss_cons (ps_if (@PW.pt _ _ _ (pw_or (pt_cmpR (op_neA (K := K) rfl (u100 hr)) (pv 7) (pe_lst (pa_cons (pv 12) (pa_cons (pv 12) (pa_cons pe_bl pa_nil)))) (nomark _)) (pw_or1 (pt_not (pt_val (pe_callB (call_all (K := K) rfl rfl) (by rfl) T.b_all PyProof.Rows.Boot.«all» (pa_cons (@pe_lc _ _ _ _ _ _ _ _ _ _ [] [] rfl (pi_list (pv 7)) rfl (by decide) rfl (by decide) rfl (by decide) cap_none (fun _ _ h => nomatch h) (no_free rfl) (fun C z Hc fp => (pe_callB (call_isiTup (K := K) rfl) (by rfl) T.b_isinstance PyProof.Rows.Boot.«isinstance» (pa_cons (pv 0) (pa_cons (pe_bty (by rfl) T.b_bool PyProof.Rows.Boot.«bool») pa_nil)))) (fun _ => rfl)) pa_nil)) (fun _ => rfl)))))) (pss_one (ps_ret pe_bl)) pss_nil)
      (pss_cons (ps_set (i := 13) sc_law.nd rfl (Or.inl rfl) (pe_fn F_law_plus (by decide) hr (by rfl) passE0 (pa_cons (pe_ix ix_tup (pv 9) pe_int (fun _ _ => rfl)) (pa_cons (pe_fn F_law_fit (by decide) hr (by rfl) passE0 (pa_cons (pe_op op_sub (pe_fn F_law_take (by decide) hr (by rfl) passE0 (pa_cons (pv 2) (pa_cons pe_int pa_nil))) pe_int) (pa_cons (pe_op op_add pe_int (pe_fn F_law_take (by decide) hr (by rfl) passE0 (pa_cons (pv 2) (pa_cons pe_int pa_nil)))) pa_nil))) pa_nil))))
      (pss_one (ps_set (i := 10) sc_law.nd rfl (Or.inl rfl) (pe_op op_catB (pe_tup (pa_cons (pv 13) (pa_cons (pe_fn F_law_plus (by decide) hr (by rfl) passE0 (pa_cons (pe_ix ix_tup (pv 9) pe_int (fun _ _ => rfl)) (pa_cons (pe_fn F_law_fit (by decide) hr (by rfl) passE0 (pa_cons (pe_op op_sub (pe_fn F_law_take (by decide) hr (by rfl) passE0 (pa_cons (pv 2) (pa_cons pe_int pa_nil))) pe_int) (pa_cons (pe_op op_add pe_int (pe_fn F_law_take (by decide) hr (by rfl) passE0 (pa_cons (pv 2) (pa_cons pe_int pa_nil)))) pa_nil))) pa_nil))) pa_nil))) (pe_slice sl_tup (pv 10) (po_some pe_int) po_none)))))))))))))))))))
      (pss_one (ps_ret pe_bl))), ?_⟩
  have sm9 : ∀ i : Int, -(2 ^ 64) < i → i < 2 ^ 64 → Bd 9000 i := fun i h1 h2 => (Bd.small h1 h2).mono (by decide)
  obtain ⟨ns, hL, h63, _⟩ := id hS
  refine ⟨_, rfl, _, _, rfl, .inl ⟨_, hL, rfl⟩, _, _, rfl, _, _, rfl, _, rfl, ?_⟩
  obtain ⟨m, hme, m1, m8⟩ := most_of ns 3 (by decide)
  rw [hme]
  refine ⟨by omega, by omega, for_range (n := m.toNat) (fun i σ' H' => ∃ r1 r2 r3 r4 r5 r6 r7 r8 r9 r10 r11 r12 r13 : Option V, σ' = [some (.ref a), r1, r2, r3, r4, r5, r6, r7, r8, r9, r10, r11, r12, r13] ∧ Same H H') ⟨_, _, _, _, _, _, _, _, _, _, _, _, _, rfl, Same.refl H⟩ ?_ ?_⟩
  · rintro i σ0 H0 hi ⟨r1, r2, r3, r4, r5, r6, r7, r8, r9, r10, r11, r12, r13, rfl, sm⟩
    refine ⟨_, rfl, _, rfl, a, _, rfl, Scr.same hS sm, by omega, by omega, fun b nb Hb hb0 sb hb => ?_⟩
    refine ⟨_, rfl, b, nb, rfl, hb, fun rp r0 r1' x0 x1 H1 n1 s1 hb1 hrm gr0 gr1 dr0 dr1 => ?_⟩
    refine ⟨_, rfl, _, rfl, b, n1, rp, r0, r1', x0, x1, rfl, hb1, hrm, gr0, gr1, dr0, dr1, fun f xs ks n2 H2 s2 hb2 nfb hf2 al2 l1 l6 => ?_⟩
    refine ⟨_, rfl, b, n2, rfl, hb2, fun o co H3 n3 s3 hb3 ho hno => ?_⟩
    have o3 := ho.th hb3 hno
    have hf3 := s3 _ _ nfb hf2
    have al3 : Al2 (BxH H3) xs ks := Al2.imp (fun _ _ z => z.but s3 hb2) al2
    have s13 := s2.trans s3
    have hrm3 := s13 _ _ (ne_of hrm hb1 (by intro z; cases z)) hrm
    have gr03 := FH.but s13 hb1 gr0
    have gr13 := FH.but s13 hb1 gr1
    have tr0 := gr03.th (dr0.mono (by decide)) hb3
    have tr1 := gr13.th (dr1.mono (by decide)) hb3
    have rm3 : Th b H3 (.ref rp) := th_tup hb3 hrm3 (th_cons tr0 (th_cons tr1 th_nil))
    have sm3 : Same H0 H3 := But.fresh hb0 ((But.of sb).trans (s1.trans s13))
    refine ⟨_, rfl, _, rfl, f, rfl, ⟨_, SqL.of hf3⟩, lc_list (K := K) (xs := xs) (fun i ys H' => But b H3 H' ∧ (∃ n', H' b = some (.lst [.int n'])) ∧ ys.length = i ∧ ∀ y ∈ ys, Th b H' y) ⟨But.refl _, ⟨n3, hb3⟩, rfl, th_nil⟩ (by rw [sizeLine_eq]; omega) (fun i ys H' ⟨_, _, e, _⟩ => e) (fun i ys H' ⟨g, _⟩ => SqL.of (g _ _ nfb hf3)) ?_ ?_⟩
    · rintro j y ys H' Q' hy ⟨g, ⟨n', hb'⟩, ly, ty⟩ kk
      obtain ⟨kb, hkb, hbx⟩ := Al2.get al3 hy
      exact ⟨_, rfl, _, rfl, _, rfl, b, n', y, kb, o, rfl, hb', hbx.but g hb3, o3.but g, fun v H4 n4 s4 hb4 tv => kk _ _ ⟨g.trans s4, ⟨n4, hb4⟩, by rw [List.length_append, ly]; rfl, th_app (th_all ty s4) (th_cons tv th_nil)⟩⟩
    rintro ys H4 ⟨s4, ⟨n4, hb4⟩, ly, ty⟩
    intro p5 n5
    obtain ⟨H5, q5, s5, e5⟩ := newO n5 (.lst ys)
    rw [q5]
    clear q5
    have hb5 := s5 _ _ hb4
    have hf5 := s5 _ _ (s4 _ _ nfb hf3)
    refine ⟨f, p5, _, _, rfl, rfl, hf5, e5, by rw [sizeLine_eq]; omega, ?_⟩
    intro p6 n6
    obtain ⟨H6, q6, s6, e6⟩ := newO n6 (.lst (xs ++ ys))
    rw [q6]
    clear q6
    refine ⟨_, rfl, _, rfl, _, rfl, by show 1 ≤ sizeLine; decide, ?_⟩
    intro p7 n7
    obtain ⟨H7, q7, s7, e7⟩ := newO n7 (.tup [o])
    rw [q7]
    clear q7
    refine ⟨p7, 7, o, rfl, rfl, e7, by decide, by decide, ?_⟩
    intro p8 n8
    obtain ⟨H8, q8, s8, e8⟩ := newO n8 (.tup (List.replicate (Int.toNat 7) o))
    rw [q8]
    clear q8
    refine ⟨by show 3 ≤ sizeLine; decide, ?_⟩
    intro p9 n9
    obtain ⟨H9, q9, s9, e9⟩ := newO n9 (.lst [o, .ref rp, .ref p8])
    rw [q9]
    clear q9
    refine ⟨p6, p9, _, _, rfl, rfl, (s7.trans (s8.trans s9)) _ _ e6, e9, by rw [sizeLine_eq, List.length_append]; simp only [List.length_cons, List.length_nil]; omega, ?_⟩
    intro p10 n10
    obtain ⟨H10, q10, s10, e10⟩ := newO n10 (.lst (xs ++ ys ++ [o, .ref rp, .ref p8]))
    rw [q10]
    clear q10
    have s410 := s5.trans (s6.trans (s7.trans (s8.trans (s9.trans s10))))
    have hb10 := s410 _ _ hb4
    have hf10 := s410 _ _ (s4 _ _ nfb hf3)
    have b310 : But b H3 H10 := s4.trans (.of s410)
    have o10 := o3.but b310
    have rm10 := rm3.but b310
    have al10 : Al2 (BxH H10) xs ks := Al2.imp (fun _ _ z => z.but b310 hb3) al3
    have t8 : Th b H10 (.ref p8) := th_tup hb10 ((s9.trans s10) _ _ e8) (th_rep o10)
    have all10 : ∀ x ∈ xs ++ ys ++ [o, .ref rp, .ref p8], Th b H10 x := th_app (th_app (al_th hb10 al10) (th_allS ty s410)) (th_cons o10 (th_cons rm10 (th_cons t8 th_nil)))
    refine ⟨p10, rfl, ⟨_, SqL.of e10⟩, for_list (K := K) (a := p10) (xs := xs ++ ys ++ [o, .ref rp, .ref p8]) (fun _ σ1 H' => ∃ y6 y7 : Option V, σ1 = [some (.ref a), some (.int (0 + (i : Int))), some (.ref b), some (.ref rp), some (.ref f), some o, y6, y7, r8, r9, r10, r11, r12, r13] ∧ Same H10 H') ⟨_, _, rfl, Same.refl _⟩ (fun _ _ _ _ ⟨_, _, _, g⟩ => SqL.of (g _ _ e10)) ?_ ?_⟩
    · rintro j x σ1 H11 hx ⟨y6, y7, rfl, g11⟩
      obtain ⟨hj, ex⟩ := List.getElem?_eq_some_iff.mp hx
      have tx := (all10 x (ex ▸ List.getElem_mem hj)).same g11
      obtain ⟨c, hc⟩ := tx.box (K := K)
      refine ⟨_, rfl, x, c, rfl, hc, fun H12 s12 => ?_⟩
      refine ⟨_, rfl, _, _, true, rfl, .inl ⟨_, rfl⟩, ⟨_, .bl _, kit_bl_bl⟩, _, rfl, iteF ?_⟩
      refine ⟨_, rfl, _, rfl, x, c, rfl, hc.same s12, fun H13 s13 => ⟨rfl, _, rfl, iteNS rfl ?_⟩⟩
      exact ⟨_, _, rfl, g11.trans (s12.trans s13)⟩
    rintro σ1 H11 ⟨y6, y7, rfl, g11⟩
    have hb11 := g11 _ _ hb10
    have hf11 := g11 _ _ hf10
    have al11 : Al2 (BxH H11) xs ks := Al2.imp (fun _ _ z => z.same g11) al10
    have hrm11 : H11 rp = some (.tup [.ref r0, .ref r1']) := g11 _ _ (b310 _ _ (ne_of hrm3 hb3 (by intro z; cases z)) hrm3)
    have gr011 := FH.same g11 (FH.but b310 hb3 gr03)
    have o11 := o10.same g11
    have rm11 := rm10.same g11
    have tr011 := (tr0.but b310).same g11
    have tr111 := (tr1.but b310).same g11
    have sm11 : Same H0 H11 := fun x z hx => g11 _ _ (b310 _ _ (ne_of_none hx hb0) (sm3 _ _ hx))
    obtain ⟨z0, ez0⟩ : ∃ z, xs[0]? = some z := ⟨xs[0], List.getElem?_eq_getElem (by omega)⟩
    obtain ⟨k0, hk0, bx0⟩ := Al2.get al11 ez0
    obtain ⟨zl, ezl⟩ : ∃ z, xs[xs.length - 1]? = some z := ⟨xs[xs.length - 1], List.getElem?_eq_getElem (by omega)⟩
    obtain ⟨kl, hkl, bxl⟩ := Al2.get al11 ezl
    have at0 : atI xs 0 = some z0 := atI_nat (j := 0) ez0
    have atl : atI xs (-1) = some zl := atI_neg (k := 1) (by decide) l1 ezl
    refine ⟨_, rfl, rp, _, _, _, rfl, rfl, SqT.of hrm11, rfl, by show 2 ≤ sizeLine; decide, ?_⟩
    intro pA1 nA1
    obtain ⟨HA1, qA1, sA1, eA1⟩ := newO nA1 (.tup [.int 0, .int 1])
    rw [qA1]
    clear qA1
    refine ⟨by show 2 ≤ sizeLine; decide, ?_⟩
    intro pA2 nA2
    obtain ⟨HA2, qA2, sA2, eA2⟩ := newO nA2 (.tup [.ref r0, .ref pA1])
    rw [qA2]
    clear qA2
    have hrmA := (sA1.trans sA2) _ _ hrm11
    have gr0A := FH.same (sA1.trans sA2) gr011
    refine ⟨_, rfl, rp, _, _, _, rfl, rfl, SqT.of hrmA, rfl, r0, _, _, _, rfl, rfl, SqT.of gr0A, rfl, _, _, rfl, rfl, by show 2 ≤ sizeLine; decide, ?_⟩
    intro pA3 nA3
    obtain ⟨HA3, qA3, sA3, eA3⟩ := newO nA3 (.tup [.int (0 - x0.num), .int 1])
    rw [qA3]
    clear qA3
    have hrmB := sA3 _ _ hrmA
    refine ⟨_, rfl, rp, _, _, _, rfl, rfl, SqT.of hrmB, rfl, by show 2 ≤ sizeLine; decide, ?_⟩
    intro pA4 nA4
    obtain ⟨HA4, qA4, sA4, eA4⟩ := newO nA4 (.tup [.ref pA3, .ref r1'])
    rw [qA4]
    clear qA4
    have hrmC := sA4 _ _ hrmB
    refine ⟨_, rfl, rp, _, rfl, .inr (SqT.of hrmC), ?_⟩
    intro pA5 nA5
    obtain ⟨HA5, qA5, sA5, eA5⟩ := newO nA5 (.lst [.ref r0, .ref r1'])
    rw [qA5]
    clear qA5
    have hrmD := sA5 _ _ hrmC
    refine ⟨_, rfl, rp, _, _, _, rfl, rfl, SqT.of hrmD, rfl, by show 1 ≤ sizeLine; decide, ?_⟩
    intro pA6 nA6
    obtain ⟨HA6, qA6, sA6, eA6⟩ := newO nA6 (.tup [.ref r0])
    rw [qA6]
    clear qA6
    have hrmE := sA6 _ _ hrmD
    refine ⟨_, rfl, _, rfl, rp, _, _, _, rfl, rfl, SqT.of hrmE, rfl, by show 1 ≤ sizeLine; decide, ?_⟩
    intro pA7 nA7
    obtain ⟨HA7, qA7, sA7, eA7⟩ := newO nA7 (.tup [.ref r0])
    rw [qA7]
    clear qA7
    have hrmF := sA7 _ _ hrmE
    refine ⟨rp, pA7, _, _, rfl, rfl, hrmF, eA7, by show 3 ≤ 1000; decide, fun pA8 HA8 sA8 eA8 => ?_⟩
    have hrmG := sA8 _ _ hrmF
    refine ⟨by show 5 ≤ sizeLine; decide, ?_⟩
    intro pA9 nA9
    obtain ⟨HA9, qA9, sA9, eA9⟩ := newO nA9 (.lst [.ref pA2, .ref pA4, .ref pA5, .ref pA6, .ref pA8])
    rw [qA9]
    clear qA9
    have hrmH := sA9 _ _ hrmG
    refine ⟨_, rfl, _, rfl, _, rfl, _, rfl, rp, _, _, _, rfl, rfl, SqT.of hrmH, rfl, by show 2 ≤ sizeLine; decide, ?_⟩
    intro pB1 nB1
    obtain ⟨HB1, qB1, sB1, eB1⟩ := newO nB1 (.tup [o, .ref r1'])
    rw [qB1]
    clear qB1
    have hrmI := sB1 _ _ hrmH
    refine ⟨_, rfl, rp, _, _, _, rfl, rfl, SqT.of hrmI, rfl, _, rfl, by show 2 ≤ sizeLine; decide, ?_⟩
    intro pB2 nB2
    obtain ⟨HB2, qB2, sB2, eB2⟩ := newO nB2 (.tup [.ref r0, o])
    rw [qB2]
    clear qB2
    have sB0 := sA1.trans (sA2.trans (sA3.trans (sA4.trans (sA5.trans (sA6.trans (sA7.trans (sA8.trans (sA9.trans (sB1.trans sB2)))))))))
    have hfB := sB0 _ _ hf11
    refine ⟨_, rfl, f, _, _, _, rfl, rfl, SqL.of hfB, at0, by show 5 ≤ sizeLine; decide, ?_⟩
    intro pB3 nB3
    obtain ⟨HB3, qB3, sB3, eB3⟩ := newO nB3 (.lst [.ref rp, o, .ref pB1, .ref pB2, z0])
    rw [qB3]
    clear qB3
    refine ⟨_, rfl, pB3, pA9, _, _, rfl, rfl, eB3, (sB1.trans (sB2.trans sB3)) _ _ eA9, by show 10 ≤ sizeLine; decide, ?_⟩
    intro pB4 nB4
    obtain ⟨HB4, qB4, sB4, eB4⟩ := newO nB4 (.lst ([.ref rp, o, .ref pB1, .ref pB2, z0] ++ [.ref pA2, .ref pA4, .ref pA5, .ref pA6, .ref pA8]))
    rw [qB4]
    clear qB4
    have q4 := sB3.trans sB4
    have q2 := sB2.trans q4
    have q1 := sB1.trans q2
    have q8 := sA9.trans q1
    have q7 := sA8.trans q8
    have q6 := sA7.trans q7
    have q5 := sA6.trans q6
    have qq4 := sA5.trans q5
    have q3 := sA4.trans qq4
    have qq2 := sA3.trans q3
    have qq1 := sA2.trans qq2
    have qq0 : Same H11 HB4 := sA1.trans qq1
    have hbE := qq0 _ _ hb11
    have oE := o11.same qq0
    have rE := rm11.same qq0
    have r0E := tr011.same qq0
    have r1E := tr111.same qq0
    have nA5 : pA5 ≠ b := Ne.symm (ne_of_none ((sA1.trans (sA2.trans (sA3.trans sA4))) _ _ hb11) nA5)
    have b0 : Bd 64 0 := Bd.small (by decide) (by decide)
    have allE : ∀ x ∈ [.ref rp, o, .ref pB1, .ref pB2, z0] ++ [.ref pA2, .ref pA4, .ref pA5, .ref pA6, .ref pA8], Th b HB4 x := th_app
      (th_cons rE (th_cons oE (th_cons (th_tup hbE (q2 _ _ eB1) (th_cons oE (th_cons r1E th_nil))) (th_cons (th_tup hbE (q4 _ _ eB2) (th_cons r0E (th_cons oE th_nil))) (th_cons ((bx0.same qq0).th hbE) th_nil)))))
      (th_cons (th_tup hbE (qq2 _ _ eA2) (th_cons r0E (th_cons (th_tup hbE (qq1 _ _ eA1) (th_cons (th_sml (by decide) (by decide)) (th_cons (th_sml (by decide) (by decide)) th_nil))) th_nil)))
      (th_cons (th_tup hbE (qq4 _ _ eA4) (th_cons (th_tup hbE (q3 _ _ eA3) (th_cons (.int ((b0.sub dr0.1).mono (by decide))) (th_cons (th_sml (by decide) (by decide)) th_nil))) (th_cons r1E th_nil)))
      (th_cons (.lst nA5 (by show 2 ≤ 100; decide) (q5 _ _ eA5) (th_cons r0E (th_cons r1E th_nil)))
      (th_cons (th_tup hbE (q6 _ _ eA6) (th_cons r0E th_nil))
      (th_cons (th_tup hbE (q8 _ _ eA8) (th_cons r0E (th_cons r1E (th_cons r0E th_nil)))) th_nil)))))
    refine ⟨pB4, rfl, ⟨_, SqL.of eB4⟩, for_list (K := K) (a := pB4) (xs := [.ref rp, o, .ref pB1, .ref pB2, z0] ++ [.ref pA2, .ref pA4, .ref pA5, .ref pA6, .ref pA8]) (fun _ σ1 H' => ∃ y6 y7 : Option V, σ1 = [some (.ref a), some (.int (0 + (i : Int))), some (.ref b), some (.ref rp), some (.ref f), some o, y6, y7, some (.ref pA9), r9, r10, r11, r12, r13] ∧ Same HB4 H') ⟨_, _, rfl, Same.refl _⟩ (fun _ _ _ _ ⟨_, _, _, g⟩ => SqL.of (g _ _ eB4)) ?_ ?_⟩
    · rintro j x σ1 H14 hx ⟨y6, y7, rfl, g14⟩
      obtain ⟨hj, ex⟩ := List.getElem?_eq_some_iff.mp hx
      have tx := (allE x (ex ▸ List.getElem_mem hj)).same g14
      obtain ⟨c, hc⟩ := tx.room (K := K)
      refine ⟨_, rfl, x, c, rfl, hc, fun H12 s12 => ?_⟩
      refine ⟨_, rfl, _, _, true, rfl, .inl ⟨_, rfl⟩, ⟨_, .bl _, kit_bl_bl⟩, _, rfl, iteF ?_⟩
      refine ⟨_, rfl, _, rfl, x, c, rfl, hc.same s12, fun H13 s13 => ⟨rfl, _, rfl, iteNS rfl ?_⟩⟩
      exact ⟨_, _, rfl, g14.trans (s12.trans s13)⟩
    rintro σ1 H14 ⟨y6, y7', rfl, g14⟩
    have s1114 := qq0.trans g14
    have hb14 := s1114 _ _ hb11
    have hf14 := s1114 _ _ hf11
    have B0 := bx0.same s1114
    have Bl0 := bxl.same s1114
    have sm14 := sm11.trans s1114
    refine ⟨_, rfl, f, _, _, _, rfl, rfl, SqL.of hf14, at0, _, rfl, _, rfl, f, _, _, _, rfl, rfl, SqL.of hf14, atl, _, _, rfl, ?_⟩
    refine ⟨_, rfl, by decide, by decide, for_range (n := 6) (fun _ σ1 H' => ∃ (y7 r11 r12 r13 : Option V) (zz : V) (kk : Bx) (nb : Int), σ1 = [some (.ref a), some (.int (0 + (i : Int))), some (.ref b), some (.ref rp), some (.ref f), some o, y6, y7, some (.ref pA9), some z0, some zz, r11, r12, r13] ∧ But b H14 H' ∧ H' b = some (.lst [.int nb]) ∧ BxS K H' zz kk) ⟨_, _, _, _, zl, kl, n4, rfl, But.refl _, hb14, Bl0.toS⟩ ?_ ?_⟩
    · rintro t σ1 H20 ht ⟨y7, r11, r12, r13, zz, kk, nb, rfl, s20, hb20, B20⟩
      have A20 := B0.but s20 hb14
      have A20s : BxS K H20 z0 k0 := A20.toS
      have wk := A20s
      obtain ⟨_, _, _, _, _, _, _, _, _, _, _, _, pw, ph⟩ := wk
      refine ⟨_, rfl, _, rfl, z0, k0, zz, kk, _, rfl, A20s, B20, rfl, fun H21 s21 => ?_⟩
      refine ⟨_, rfl, _, rfl, zz, kk, z0, k0, _, rfl, B20.same s21, A20s.same s21, ov_comm kk k0, fun H22 s22 => ?_⟩
      refine ⟨_, rfl, _, rfl, z0, k0, z0, k0, _, rfl, A20s.same (s21.trans s22), A20s.same (s21.trans s22), ov_self k0 pw ph, fun H23 s23 => ?_⟩
      refine ⟨by show 3 ≤ sizeLine; decide, ?_⟩
      intro p24 n24
      obtain ⟨H24, q24, s24, e24⟩ := newO n24 (.lst [.bl (ovQ k0 kk), .bl (ovQ k0 kk), .bl true])
      rw [q24]
      clear q24
      have t24 := s21.trans (s22.trans (s23.trans s24))
      refine ⟨_, rfl, _, rfl, z0, k0, zz, kk, _, rfl, A20s.same t24, B20.same t24, rfl, fun H25 s25 => ?_⟩
      refine ⟨_, rfl, _, rfl, _, rfl, by show 3 ≤ sizeLine; decide, ?_⟩
      intro p26 n26
      obtain ⟨H26, q26, s26, e26⟩ := newO n26 (.lst [.bl (ovQ k0 kk), .bl (ovQ k0 kk), .bl true])
      rw [q26]
      clear q26
      have e24' := (s25.trans s26) _ _ e24
      refine ⟨_, .lst (SqL.of e24') (.cons (.bl _) (.cons (.bl _) (.cons (.bl _) .nil))), .lst (SqL.of e26) (.cons (.bl _) (.cons (.bl _) (.cons (.bl _) .nil))), rfl, rfl, _, rfl, iteF ?_⟩
      refine ⟨_, rfl, p24, rfl, ⟨_, SqL.of e24'⟩, lc_list (K := K) (xs := [.bl (ovQ k0 kk), .bl (ovQ k0 kk), .bl true]) (fun i ys H' => H26 = H' ∧ ys = ([true, true, true].take i).map V.bl ∧ i ≤ 3) ⟨rfl, rfl, by omega⟩ (by rw [sizeLine_eq]; simp) (fun i ys H' ⟨_, e, l⟩ => by rw [e]; simp; omega) (fun i ys H' ⟨e, _⟩ => by rw [← e]; exact SqL.of e24') ?_ ?_⟩
      · rintro i y ys H' Q' hy ⟨rfl, rfl, li⟩ kq
        match i, hy with
        | 0, hy => cases hy; exact ⟨_, rfl, _, _, true, rfl, .inl ⟨_, rfl⟩, .inl ⟨_, .bl _, kit_bl_bl⟩, kq _ _ ⟨rfl, rfl, by omega⟩⟩
        | 1, hy => cases hy; exact ⟨_, rfl, _, _, true, rfl, .inl ⟨_, rfl⟩, .inl ⟨_, .bl _, kit_bl_bl⟩, kq _ _ ⟨rfl, rfl, by omega⟩⟩
        | 2, hy => cases hy; exact ⟨_, rfl, _, _, true, rfl, .inl ⟨_, rfl⟩, .inl ⟨_, .bl _, kit_bl_bl⟩, kq _ _ ⟨rfl, rfl, by omega⟩⟩
      rintro ys H' ⟨rfl, ey, _⟩
      replace ey : ys = [true, true, true].map V.bl := ey
      subst ey
      intro p27 n27
      obtain ⟨H27, q27, s27, e27⟩ := newO n27 (.lst ([true, true, true].map V.bl))
      rw [q27]
      clear q27
      refine ⟨p27, [true, true, true], rfl, SqL.of e27, _, rfl, iteF ?_⟩
      have t27 := t24.trans (s25.trans (s26.trans s27))
      have hb27 := t27 _ _ hb20
      obtain ⟨p0, a0, a1, a2, a3, a4, a5, rfl, hp0, ⟨h0, h1, h2, h3, h4, h5⟩, ⟨g0, g1, g2, g3, g4, g5⟩, _, _, _⟩ := A20.same t27
      refine ⟨_, rfl, p0, _, _, _, rfl, rfl, SqT.of hp0, rfl, _, rfl, b, 13, nb, rfl, hb27, by decide, sm9 _ (by decide) (by decide), fun d30 n30 H30 u30 v30 s30 hb30 => ?_⟩
      refine ⟨_, _, rfl, rfl, _, rfl, b, 3, n30, rfl, hb30, by decide, sm9 _ (by decide) (by decide), fun d31 n31 H31 u31 v31 s31 hb31 => ?_⟩
      refine ⟨_, _, rfl, rfl, _, _, rfl, sm9 _ (by omega) (by omega), by omega, fun p32 H32 s32 e32 => ?_⟩
      have b32 := s30.trans (s31.trans (.of s32))
      have db : ∀ {i j : Int}, 0 ≤ i → i < 13 → 0 ≤ j → j < 3 → FB 64 (Rat.divInt (i - 6) (1 + j)) := fun h1 h2 h3 h4 => FB.fit (by omega) (Bd.small (by omega) (by omega)) (Bd.small (by omega) (by omega))
      have f32 := db u30 v30 u31 v31
      refine ⟨_, _, _, _, rfl, FH.fq (FH.but b32 hb27 h0), g0.mono (by decide), FH.fq e32, f32.mono (by decide), fun p33 H33 s33 e33 => ?_⟩
      have b33 := b32.trans (.of s33)
      have hb33 := s33 _ _ (s32 _ _ hb31)
      have hp33 := b33 _ _ (ne_of hp0 hb27 (by intro z; cases z)) hp0
      refine ⟨_, rfl, _, rfl, p0, _, _, _, rfl, rfl, SqT.of hp33, rfl, _, rfl, b, 13, n31, rfl, hb33, by decide, sm9 _ (by decide) (by decide), fun d34 n34 H34 u34 v34 s34 hb34 => ?_⟩
      refine ⟨_, _, rfl, rfl, _, rfl, b, 3, n34, rfl, hb34, by decide, sm9 _ (by decide) (by decide), fun d35 n35 H35 u35 v35 s35 hb35 => ?_⟩
      refine ⟨_, _, rfl, rfl, _, _, rfl, sm9 _ (by omega) (by omega), by omega, fun p36 H36 s36 e36 => ?_⟩
      have b3336 := s34.trans (s35.trans (.of s36))
      have b36 := b33.trans b3336
      have f36 := db u34 v34 u35 v35
      refine ⟨_, _, _, _, rfl, FH.fq (FH.but b36 hb27 h1), g1.mono (by decide), FH.fq e36, f36.mono (by decide), fun p37 H37 s37 e37 => ?_⟩
      refine ⟨by show 2 ≤ sizeLine; decide, ?_⟩
      intro p38 n38
      obtain ⟨H38, q38, s38, e38⟩ := newO n38 (.tup [.ref p33, .ref p37])
      rw [q38]
      clear q38
      have t3638 := s37.trans s38
      have hb38 := t3638 _ _ (s36 _ _ hb35)
      have b38 := b36.trans (.of t3638)
      obtain ⟨po, c0, c1, c2, c3, v4, v5, v6, rfl, hpo, ⟨j0, j1, j2, j3⟩, ⟨i0, i1, i2, i3⟩, w2, w3⟩ := (B20.same t27).but b38 hb27
      refine ⟨_, rfl, _, rfl, po, _, rfl, hpo, cut_gt (n := 7) (by decide) (by decide), ?_⟩
      intro p39 n39
      obtain ⟨H39, q39, s39, e39⟩ := newO n39 (.tup (cutV [.ref c0, .ref c1, .ref c2, .ref c3, v4, v5, v6] (some 2) none))
      rw [q39]
      clear q39
      refine ⟨p38, p39, _, _, rfl, rfl, s39 _ _ e38, e39, by show 7 ≤ 1000; decide, fun p40 H40 s40 e40 => ?_⟩
      replace e40 : H40 p40 = some (.tup [.ref p33, .ref p37, .ref c2, .ref c3, v4, v5, v6]) := e40
      have t40 := s39.trans s40
      have x33 := Kw.Same.tup (t3638.trans t40) (But.tup b3336 hb33 e33)
      have y37 := Kw.Same.tup (s38.trans t40) e37
      refine ⟨_, _, _, _, .ref p40, atQ kk _ _, n35, rfl, s20.trans ((But.of t27).trans (b38.trans (.of t40))), t40 _ _ hb38, p40, p33, p37, c2, c3, v4, v5, v6, rfl, SqT.of e40, ⟨x33, y37, Kw.Same.tup t40 j2, Kw.Same.tup t40 j3⟩, ⟨(FB.add g0 f32).mono (by decide), (FB.add g1 f36).mono (by decide), i2, i3⟩, w2, w3⟩
    · rintro σ1 H20 ⟨y7, r11, r12, r13, zz, kk, nb, rfl, s20, hb20, B20⟩
      refine ⟨_, _, _, _, _, _, _, _, _, _, _, _, _, rfl, fun x z hx => ?_⟩
      have z1 := sm _ _ hx
      exact s20 _ _ (ne_of_none z1 hb0) (sm14 _ _ z1)
  · rintro σ0 H0 ⟨r1, r2, r3, r4, r5, r6, r7, r8, r9, r10, r11, r12, r13, rfl, sm⟩
    exact fin _
end
theorem all_mk {P : Program} {w : World} {K : PySem.W.Frag} {h : Heap} {mg : Str → Option Value} (X : K.In h) (G : h.Ns mainGlobals mg)
    {f0 f1 f2 f3 f4 f5 f6 f7 f8 f9 f10 f11 f12 f13 f14 f15 f16 f17 f18 f19 f20 f21 f22 f23 f24 f25 f26 f27 f28 f29 : Addr}
    {oc0 kV0 dc0 pm0 cd0 ct0 oc1 kV1 dc1 pm1 cd1 ct1 oc2 kV2 dc2 pm2 cd2 ct2 oc3 kV3 dc3 pm3 cd3 ct3 oc4 kV4 dc4 pm4 cd4 ct4 oc5 kV5 dc5 pm5 cd5 ct5 oc6 kV6 dc6 pm6 cd6 ct6 oc7 kV7 dc7 pm7 cd7 ct7 oc8 kV8 dc8 pm8 cd8 ct8 oc9 kV9 dc9 pm9 cd9 ct9 oc10 kV10 dc10 pm10 cd10 ct10 oc11 kV11 dc11 pm11 cd11 ct11 oc12 kV12 dc12 pm12 cd12 ct12 oc13 kV13 dc13 pm13 cd13 ct13 oc14 kV14 dc14 pm14 cd14 ct14 oc15 kV15 dc15 pm15 cd15 ct15 oc16 kV16 dc16 pm16 cd16 ct16 oc17 kV17 dc17 pm17 cd17 ct17 oc18 kV18 dc18 pm18 cd18 ct18 oc19 kV19 dc19 pm19 cd19 ct19 oc20 kV20 dc20 pm20 cd20 ct20 oc21 kV21 dc21 pm21 cd21 ct21 oc22 kV22 dc22 pm22 cd22 ct22 oc23 kV23 dc23 pm23 cd23 ct23 oc24 kV24 dc24 pm24 cd24 ct24 oc25 kV25 dc25 pm25 cd25 ct25 oc26 kV26 dc26 pm26 cd26 ct26 oc27 kV27 dc27 pm27 cd27 ct27 oc28 kV28 dc28 pm28 cd28 ct28 oc29 kV29 dc29 pm29 cd29 ct29 : Value}
    {od0 an0 od1 an1 od2 an2 od3 an3 od4 an4 od5 an5 od6 an6 od7 an7 od8 an8 od9 an9 od10 an10 od11 an11 od12 an12 od13 an13 od14 an14 od15 an15 od16 an16 od17 an17 od18 an18 od19 an19 od20 an20 od21 an21 od22 an22 od23 an23 od24 an24 od25 an25 od26 an26 od27 an27 od28 an28 od29 an29 : Option Addr}
    {sl0 sl1 sl2 sl3 sl4 sl5 sl6 sl7 sl8 sl9 sl10 sl11 sl12 sl13 sl14 sl15 sl16 sl17 sl18 sl19 sl20 sl21 sl22 sl23 sl24 sl25 sl26 sl27 sl28 sl29 : Array (Option Value)}
    {tk_LONG_BITS : Tok}
    {tk_MOST_WEIGHT : Tok}
    {A_NOUGHT : Addr} {oG_NOUGHT : Option Addr} {k1_NOUGHT k2_NOUGHT : Tok} {nG_NOUGHT : Nat} {slG_NOUGHT : Array (Option Value)}
    {tk_ACROSS : Tok}
    {tk_ALONG : Tok}
    {tk_SIZES : Tok}
    (b_isinstance : PySem.W.nsIn K mainGlobals "isinstance" = some none)
    (b_int : PySem.W.nsIn K mainGlobals "int" = some none)
    (b_bool : PySem.W.nsIn K mainGlobals "bool" = some none)
    (b_tuple : PySem.W.nsIn K mainGlobals "tuple" = some none)
    (b_list : PySem.W.nsIn K mainGlobals "list" = some none)
    (b_abs : PySem.W.nsIn K mainGlobals "abs" = some none)
    (b_len : PySem.W.nsIn K mainGlobals "len" = some none)
    (b_divmod : PySem.W.nsIn K mainGlobals "divmod" = some none)
    (b_range : PySem.W.nsIn K mainGlobals "range" = some none)
    (b_max : PySem.W.nsIn K mainGlobals "max" = some none)
    (b_min : PySem.W.nsIn K mainGlobals "min" = some none)
    (b_all : PySem.W.nsIn K mainGlobals "all" = some none)
    (i_LONG_BITS : PySem.W.nsIn K mainGlobals "LONG_BITS" = some (some (.int 4000 tk_LONG_BITS)))
    (i_MOST_WEIGHT : PySem.W.nsIn K mainGlobals "MOST_WEIGHT" = some (some (.int 1000 tk_MOST_WEIGHT)))
    (c_NOUGHT : PySem.W.nsIn K mainGlobals "NOUGHT" = some (some (.ref A_NOUGHT)))
    (z_NOUGHT : K.lookup A_NOUGHT = some ⟨.type "tuple", oG_NOUGHT, .seq #[.int 0 k1_NOUGHT, .int 1 k2_NOUGHT] nG_NOUGHT, slG_NOUGHT⟩)
    (i_ACROSS : PySem.W.nsIn K mainGlobals "ACROSS" = some (some (.int 0 tk_ACROSS)))
    (i_ALONG : PySem.W.nsIn K mainGlobals "ALONG" = some (some (.int 1 tk_ALONG)))
    (i_SIZES : PySem.W.nsIn K mainGlobals "SIZES" = some (some (.int 2 tk_SIZES)))
    (a0 : PySem.W.nsIn K mainGlobals "is_whole" = some (some (.ref f0)))
    (l0 : K.lookup f0 = some ⟨oc0, od0, .func (PySem.W.fnOf "is_whole" "is_whole" (defArgs (top 3)) (defBody (top 3)) (defScope (top 3)) .none kV0 dc0 pm0 an0 cd0 ct0), sl0⟩)
    (q0 : PySem.W.codeIn K cd0 "is_whole" = true)
    (k0 : PySem.W.keepIn K (.ref f0) = true)
    (a1 : PySem.W.nsIn K mainGlobals "common_divisor" = some (some (.ref f1)))
    (l1 : K.lookup f1 = some ⟨oc1, od1, .func (PySem.W.fnOf "common_divisor" "common_divisor" (defArgs (top 5)) (defBody (top 5)) (defScope (top 5)) .none kV1 dc1 pm1 an1 cd1 ct1), sl1⟩)
    (q1 : PySem.W.codeIn K cd1 "common_divisor" = true)
    (k1 : PySem.W.keepIn K (.ref f1) = true)
    (a2 : PySem.W.nsIn K mainGlobals "plus" = some (some (.ref f2)))
    (l2 : K.lookup f2 = some ⟨oc2, od2, .func (PySem.W.fnOf "plus" "plus" (defArgs (top 7)) (defBody (top 7)) (defScope (top 7)) .none kV2 dc2 pm2 an2 cd2 ct2), sl2⟩)
    (q2 : PySem.W.codeIn K cd2 "plus" = true)
    (k2 : PySem.W.keepIn K (.ref f2) = true)
    (a3 : PySem.W.nsIn K mainGlobals "under" = some (some (.ref f3)))
    (l3 : K.lookup f3 = some ⟨oc3, od3, .func (PySem.W.fnOf "under" "under" (defArgs (top 8)) (defBody (top 8)) (defScope (top 8)) .none kV3 dc3 pm3 an3 cd3 ct3), sl3⟩)
    (q3 : PySem.W.codeIn K cd3 "under" = true)
    (k3 : PySem.W.keepIn K (.ref f3) = true)
    (a4 : PySem.W.nsIn K mainGlobals "is_fraction" = some (some (.ref f4)))
    (l4 : K.lookup f4 = some ⟨oc4, od4, .func (PySem.W.fnOf "is_fraction" "is_fraction" (defArgs (top 6)) (defBody (top 6)) (defScope (top 6)) .none kV4 dc4 pm4 an4 cd4 ct4), sl4⟩)
    (q4 : PySem.W.codeIn K cd4 "is_fraction" = true)
    (k4 : PySem.W.keepIn K (.ref f4) = true)
    (a5 : PySem.W.nsIn K mainGlobals "is_weight" = some (some (.ref f5)))
    (l5 : K.lookup f5 = some ⟨oc5, od5, .func (PySem.W.fnOf "is_weight" "is_weight" (defArgs (top 12)) (defBody (top 12)) (defScope (top 12)) .none kV5 dc5 pm5 an5 cd5 ct5), sl5⟩)
    (q5 : PySem.W.codeIn K cd5 "is_weight" = true)
    (k5 : PySem.W.keepIn K (.ref f5) = true)
    (a6 : PySem.W.nsIn K mainGlobals "is_breadth" = some (some (.ref f6)))
    (l6 : K.lookup f6 = some ⟨oc6, od6, .func (PySem.W.fnOf "is_breadth" "is_breadth" (defArgs (top 17)) (defBody (top 17)) (defScope (top 17)) .none kV6 dc6 pm6 an6 cd6 ct6), sl6⟩)
    (q6 : PySem.W.codeIn K cd6 "is_breadth" = true)
    (k6 : PySem.W.keepIn K (.ref f6) = true)
    (a7 : PySem.W.nsIn K mainGlobals "is_box" = some (some (.ref f7)))
    (l7 : K.lookup f7 = some ⟨oc7, od7, .func (PySem.W.fnOf "is_box" "is_box" (defArgs (top 18)) (defBody (top 18)) (defScope (top 18)) .none kV7 dc7 pm7 an7 cd7 ct7), sl7⟩)
    (q7 : PySem.W.codeIn K cd7 "is_box" = true)
    (k7 : PySem.W.keepIn K (.ref f7) = true)
    (a8 : PySem.W.nsIn K mainGlobals "is_room" = some (some (.ref f8)))
    (l8 : K.lookup f8 = some ⟨oc8, od8, .func (PySem.W.fnOf "is_room" "is_room" (defArgs (top 19)) (defBody (top 19)) (defScope (top 19)) .none kV8 dc8 pm8 an8 cd8 ct8), sl8⟩)
    (q8 : PySem.W.codeIn K cd8 "is_room" = true)
    (k8 : PySem.W.keepIn K (.ref f8) = true)
    (a9 : PySem.W.nsIn K mainGlobals "far_side" = some (some (.ref f9)))
    (l9 : K.lookup f9 = some ⟨oc9, od9, .func (PySem.W.fnOf "far_side" "far_side" (defArgs (top 20)) (defBody (top 20)) (defScope (top 20)) .none kV9 dc9 pm9 an9 cd9 ct9), sl9⟩)
    (q9 : PySem.W.codeIn K cd9 "far_side" = true)
    (k9 : PySem.W.keepIn K (.ref f9) = true)
    (a10 : PySem.W.nsIn K mainGlobals "have_in_common" = some (some (.ref f10)))
    (l10 : K.lookup f10 = some ⟨oc10, od10, .func (PySem.W.fnOf "have_in_common" "have_in_common" (defArgs (top 21)) (defBody (top 21)) (defScope (top 21)) .none kV10 dc10 pm10 an10 cd10 ct10), sl10⟩)
    (q10 : PySem.W.codeIn K cd10 "have_in_common" = true)
    (k10 : PySem.W.keepIn K (.ref f10) = true)
    (a11 : PySem.W.nsIn K mainGlobals "overlap" = some (some (.ref f11)))
    (l11 : K.lookup f11 = some ⟨oc11, od11, .func (PySem.W.fnOf "overlap" "overlap" (defArgs (top 22)) (defBody (top 22)) (defScope (top 22)) .none kV11 dc11 pm11 an11 cd11 ct11), sl11⟩)
    (q11 : PySem.W.codeIn K cd11 "overlap" = true)
    (k11 : PySem.W.keepIn K (.ref f11) = true)
    (a12 : PySem.W.nsIn K mainGlobals "_law_cell" = some (some (.ref f12)))
    (l12 : K.lookup f12 = some ⟨oc12, od12, .func (PySem.W.fnOf "_law_cell" "_law_cell" (defArgs (top 24)) (defBody (top 24)) (defScope (top 24)) .none kV12 dc12 pm12 an12 cd12 ct12), sl12⟩)
    (q12 : PySem.W.codeIn K cd12 "_law_cell" = true)
    (k12 : PySem.W.keepIn K (.ref f12) = true)
    (a13 : PySem.W.nsIn K mainGlobals "_law_mix" = some (some (.ref f13)))
    (l13 : K.lookup f13 = some ⟨oc13, od13, .func (PySem.W.fnOf "_law_mix" "_law_mix" (defArgs (top 25)) (defBody (top 25)) (defScope (top 25)) .none kV13 dc13 pm13 an13 cd13 ct13), sl13⟩)
    (q13 : PySem.W.codeIn K cd13 "_law_mix" = true)
    (k13 : PySem.W.keepIn K (.ref f13) = true)
    (a14 : PySem.W.nsIn K mainGlobals "_law_box" = some (some (.ref f14)))
    (l14 : K.lookup f14 = some ⟨oc14, od14, .func (PySem.W.fnOf "_law_box" "_law_box" (defArgs (top 26)) (defBody (top 26)) (defScope (top 26)) .none kV14 dc14 pm14 an14 cd14 ct14), sl14⟩)
    (q14 : PySem.W.codeIn K cd14 "_law_box" = true)
    (k14 : PySem.W.keepIn K (.ref f14) = true)
    (a15 : PySem.W.nsIn K mainGlobals "_law_take" = some (some (.ref f15)))
    (l15 : K.lookup f15 = some ⟨oc15, od15, .func (PySem.W.fnOf "_law_take" "_law_take" (defArgs (top 27)) (defBody (top 27)) (defScope (top 27)) .none kV15 dc15 pm15 an15 cd15 ct15), sl15⟩)
    (q15 : PySem.W.codeIn K cd15 "_law_take" = true)
    (k15 : PySem.W.keepIn K (.ref f15) = true)
    (a16 : PySem.W.nsIn K mainGlobals "_law_fit" = some (some (.ref f16)))
    (l16 : K.lookup f16 = some ⟨oc16, od16, .func (PySem.W.fnOf "_law_fit" "_law_fit" (defArgs (top 28)) (defBody (top 28)) (defScope (top 28)) .none kV16 dc16 pm16 an16 cd16 ct16), sl16⟩)
    (q16 : PySem.W.codeIn K cd16 "_law_fit" = true)
    (k16 : PySem.W.keepIn K (.ref f16) = true)
    (a17 : PySem.W.nsIn K mainGlobals "_law_plus" = some (some (.ref f17)))
    (l17 : K.lookup f17 = some ⟨oc17, od17, .func (PySem.W.fnOf "_law_plus" "_law_plus" (defArgs (top 29)) (defBody (top 29)) (defScope (top 29)) .none kV17 dc17 pm17 an17 cd17 ct17), sl17⟩)
    (q17 : PySem.W.codeIn K cd17 "_law_plus" = true)
    (k17 : PySem.W.keepIn K (.ref f17) = true)
    (a18 : PySem.W.nsIn K mainGlobals "_law_less" = some (some (.ref f18)))
    (l18 : K.lookup f18 = some ⟨oc18, od18, .func (PySem.W.fnOf "_law_less" "_law_less" (defArgs (top 30)) (defBody (top 30)) (defScope (top 30)) .none kV18 dc18 pm18 an18 cd18 ct18), sl18⟩)
    (q18 : PySem.W.codeIn K cd18 "_law_less" = true)
    (k18 : PySem.W.keepIn K (.ref f18) = true)
    (a19 : PySem.W.nsIn K mainGlobals "_law_whole" = some (some (.ref f19)))
    (l19 : K.lookup f19 = some ⟨oc19, od19, .func (PySem.W.fnOf "_law_whole" "_law_whole" (defArgs (top 31)) (defBody (top 31)) (defScope (top 31)) .none kV19 dc19 pm19 an19 cd19 ct19), sl19⟩)
    (q19 : PySem.W.codeIn K cd19 "_law_whole" = true)
    (k19 : PySem.W.keepIn K (.ref f19) = true)
    (a20 : PySem.W.nsIn K mainGlobals "_law_odd" = some (some (.ref f20)))
    (l20 : K.lookup f20 = some ⟨oc20, od20, .func (PySem.W.fnOf "_law_odd" "_law_odd" (defArgs (top 33)) (defBody (top 33)) (defScope (top 33)) .none kV20 dc20 pm20 an20 cd20 ct20), sl20⟩)
    (q20 : PySem.W.codeIn K cd20 "_law_odd" = true)
    (k20 : PySem.W.keepIn K (.ref f20) = true)
    (a21 : PySem.W.nsIn K mainGlobals "_law_is_fraction" = some (some (.ref f21)))
    (l21 : K.lookup f21 = some ⟨oc21, od21, .func (PySem.W.fnOf "_law_is_fraction" "_law_is_fraction" (defArgs (top 32)) (defBody (top 32)) (defScope (top 32)) .none kV21 dc21 pm21 an21 cd21 ct21), sl21⟩)
    (q21 : PySem.W.codeIn K cd21 "_law_is_fraction" = true)
    (k21 : PySem.W.keepIn K (.ref f21) = true)
    (a22 : PySem.W.nsIn K mainGlobals "_law_box_due" = some (some (.ref f22)))
    (l22 : K.lookup f22 = some ⟨oc22, od22, .func (PySem.W.fnOf "_law_box_due" "_law_box_due" (defArgs (top 37)) (defBody (top 37)) (defScope (top 37)) .none kV22 dc22 pm22 an22 cd22 ct22), sl22⟩)
    (q22 : PySem.W.codeIn K cd22 "_law_box_due" = true)
    (k22 : PySem.W.keepIn K (.ref f22) = true)
    (a23 : PySem.W.nsIn K mainGlobals "_law_room_due" = some (some (.ref f23)))
    (l23 : K.lookup f23 = some ⟨oc23, od23, .func (PySem.W.fnOf "_law_room_due" "_law_room_due" (defArgs (top 39)) (defBody (top 39)) (defScope (top 39)) .none kV23 dc23 pm23 an23 cd23 ct23), sl23⟩)
    (q23 : PySem.W.codeIn K cd23 "_law_room_due" = true)
    (k23 : PySem.W.keepIn K (.ref f23) = true)
    (a24 : PySem.W.nsIn K mainGlobals "_law_room" = some (some (.ref f24)))
    (l24 : K.lookup f24 = some ⟨oc24, od24, .func (PySem.W.fnOf "_law_room" "_law_room" (defArgs (top 34)) (defBody (top 34)) (defScope (top 34)) .none kV24 dc24 pm24 an24 cd24 ct24), sl24⟩)
    (q24 : PySem.W.codeIn K cd24 "_law_room" = true)
    (k24 : PySem.W.keepIn K (.ref f24) = true)
    (a25 : PySem.W.nsIn K mainGlobals "_law_apart" = some (some (.ref f25)))
    (l25 : K.lookup f25 = some ⟨oc25, od25, .func (PySem.W.fnOf "_law_apart" "_law_apart" (defArgs (top 35)) (defBody (top 35)) (defScope (top 35)) .none kV25 dc25 pm25 an25 cd25 ct25), sl25⟩)
    (q25 : PySem.W.codeIn K cd25 "_law_apart" = true)
    (k25 : PySem.W.keepIn K (.ref f25) = true)
    (a26 : PySem.W.nsIn K mainGlobals "_law_overlap" = some (some (.ref f26)))
    (l26 : K.lookup f26 = some ⟨oc26, od26, .func (PySem.W.fnOf "_law_overlap" "_law_overlap" (defArgs (top 40)) (defBody (top 40)) (defScope (top 40)) .none kV26 dc26 pm26 an26 cd26 ct26), sl26⟩)
    (q26 : PySem.W.codeIn K cd26 "_law_overlap" = true)
    (k26 : PySem.W.keepIn K (.ref f26) = true)
    (a27 : PySem.W.nsIn K mainGlobals "_law_spoilt" = some (some (.ref f27)))
    (l27 : K.lookup f27 = some ⟨oc27, od27, .func (PySem.W.fnOf "_law_spoilt" "_law_spoilt" (defArgs (top 38)) (defBody (top 38)) (defScope (top 38)) .none kV27 dc27 pm27 an27 cd27 ct27), sl27⟩)
    (q27 : PySem.W.codeIn K cd27 "_law_spoilt" = true)
    (k27 : PySem.W.keepIn K (.ref f27) = true)
    (a28 : PySem.W.nsIn K mainGlobals "_law_boxes" = some (some (.ref f28)))
    (l28 : K.lookup f28 = some ⟨oc28, od28, .func (PySem.W.fnOf "_law_boxes" "_law_boxes" (defArgs (top 36)) (defBody (top 36)) (defScope (top 36)) .none kV28 dc28 pm28 an28 cd28 ct28), sl28⟩)
    (q28 : PySem.W.codeIn K cd28 "_law_boxes" = true)
    (k28 : PySem.W.keepIn K (.ref f28) = true)
    (a29 : PySem.W.nsIn K mainGlobals "law" = some (some (.ref f29)))
    (l29 : K.lookup f29 = some ⟨oc29, od29, .func (PySem.W.fnOf "law" "law" (defArgs (top 41)) (defBody (top 41)) (defScope (top 41)) .none kV29 dc29 pm29 an29 cd29 ct29), sl29⟩)
    (q29 : PySem.W.codeIn K cd29 "law" = true)
    (k29 : PySem.W.keepIn K (.ref f29) = true) :
    ∃ fa, mg "law" = some (.ref fa) ∧ ∃ fd : FuncData, (∀ (s : Shared) (u : Value), BindsTo s fd ⟨[u], []⟩ [("script", u)]) ∧ ∀ base : Heap, K.In base → base.Ns mainGlobals mg → FnOk P w K mg base (CXE P w) 6 fa fd ["script"] (spLaw K) := by
  have T : Tx K mg  := ⟨PySem.W.mg_none_of X G b_isinstance, PySem.W.mg_none_of X G b_int, PySem.W.mg_none_of X G b_bool, PySem.W.mg_none_of X G b_tuple, PySem.W.mg_none_of X G b_list, PySem.W.mg_none_of X G b_abs, PySem.W.mg_none_of X G b_len, PySem.W.mg_none_of X G b_divmod, PySem.W.mg_none_of X G b_range, PySem.W.mg_none_of X G b_max, PySem.W.mg_none_of X G b_min, PySem.W.mg_none_of X G b_all, ⟨_, PySem.W.mg_of X G i_LONG_BITS⟩, ⟨_, PySem.W.mg_of X G i_MOST_WEIGHT⟩, ⟨_, PySem.W.mg_of X G c_NOUGHT, sqt_const z_NOUGHT⟩, ⟨_, PySem.W.mg_of X G i_ACROSS⟩, ⟨_, PySem.W.mg_of X G i_ALONG⟩, ⟨_, PySem.W.mg_of X G i_SIZES⟩⟩
  have D0 := df_mk (ps := ["thing"]) X G a0 l0 q0 k0 fun us hl => match us, hl with | [_], _ => rfl
  have D1 := df_mk (ps := ["one", "other"]) X G a1 l1 q1 k1 fun us hl => match us, hl with | [_, _], _ => rfl
  have D2 := df_mk (ps := ["one", "other"]) X G a2 l2 q2 k2 fun us hl => match us, hl with | [_, _], _ => rfl
  have D3 := df_mk (ps := ["one", "other"]) X G a3 l3 q3 k3 fun us hl => match us, hl with | [_, _], _ => rfl
  have D4 := df_mk (ps := ["thing"]) X G a4 l4 q4 k4 fun us hl => match us, hl with | [_], _ => rfl
  have D5 := df_mk (ps := ["thing"]) X G a5 l5 q5 k5 fun us hl => match us, hl with | [_], _ => rfl
  have D6 := df_mk (ps := ["thing"]) X G a6 l6 q6 k6 fun us hl => match us, hl with | [_], _ => rfl
  have D7 := df_mk (ps := ["thing"]) X G a7 l7 q7 k7 fun us hl => match us, hl with | [_], _ => rfl
  have D8 := df_mk (ps := ["thing"]) X G a8 l8 q8 k8 fun us hl => match us, hl with | [_], _ => rfl
  have D9 := df_mk (ps := ["box", "way"]) X G a9 l9 q9 k9 fun us hl => match us, hl with | [_, _], _ => rfl
  have D10 := df_mk (ps := ["one", "other", "way"]) X G a10 l10 q10 k10 fun us hl => match us, hl with | [_, _, _], _ => rfl
  have D11 := df_mk (ps := ["one", "other"]) X G a11 l11 q11 k11 fun us hl => match us, hl with | [_, _], _ => rfl
  have D12 := df_mk (ps := ["script", "k"]) X G a12 l12 q12 k12 fun us hl => match us, hl with | [_, _], _ => rfl
  have D13 := df_mk (ps := ["cell", "k"]) X G a13 l13 q13 k13 fun us hl => match us, hl with | [_, _], _ => rfl
  have D14 := df_mk (ps := ["script", "k"]) X G a14 l14 q14 k14 fun us hl => match us, hl with | [_, _], _ => rfl
  have D15 := df_mk (ps := ["box", "many"]) X G a15 l15 q15 k15 fun us hl => match us, hl with | [_, _], _ => rfl
  have D16 := df_mk (ps := ["top", "bottom"]) X G a16 l16 q16 k16 fun us hl => match us, hl with | [_, _], _ => rfl
  have D17 := df_mk (ps := ["one", "other"]) X G a17 l17 q17 k17 fun us hl => match us, hl with | [_, _], _ => rfl
  have D18 := df_mk (ps := ["one", "other"]) X G a18 l18 q18 k18 fun us hl => match us, hl with | [_, _], _ => rfl
  have D19 := df_mk (ps := ["thing"]) X G a19 l19 q19 k19 fun us hl => match us, hl with | [_], _ => rfl
  have D20 := df_mk (ps := ["box"]) X G a20 l20 q20 k20 fun us hl => match us, hl with | [_], _ => rfl
  have D21 := df_mk (ps := ["thing"]) X G a21 l21 q21 k21 fun us hl => match us, hl with | [_], _ => rfl
  have D22 := df_mk (ps := ["thing"]) X G a22 l22 q22 k22 fun us hl => match us, hl with | [_], _ => rfl
  have D23 := df_mk (ps := ["thing"]) X G a23 l23 q23 k23 fun us hl => match us, hl with | [_], _ => rfl
  have D24 := df_mk (ps := ["box"]) X G a24 l24 q24 k24 fun us hl => match us, hl with | [_], _ => rfl
  have D25 := df_mk (ps := ["one", "other"]) X G a25 l25 q25 k25 fun us hl => match us, hl with | [_, _], _ => rfl
  have D26 := df_mk (ps := ["one", "other"]) X G a26 l26 q26 k26 fun us hl => match us, hl with | [_, _], _ => rfl
  have D27 := df_mk (ps := ["box", "one", "odd"]) X G a27 l27 q27 k27 fun us hl => match us, hl with | [_, _, _], _ => rfl
  have D28 := df_mk (ps := ["box", "room"]) X G a28 l28 q28 k28 fun us hl => match us, hl with | [_, _], _ => rfl
  have D29 := df_mk (ps := ["script"]) X G a29 l29 q29 k29 fun us hl => match us, hl with | [_], _ => rfl
  refine law_end X G a29 l29 (fun _ => rfl) fun base kb nb => ?_
  have F0 := ok_is_whole (P := P) (w := w) (base := base) D0 T
  have F1 := ok_common_divisor (P := P) (w := w) (base := base) D1 T
  have F2 := ok_plus (P := P) (w := w) (base := base) D2 T F1
  have F3 := ok_under (P := P) (w := w) (base := base) D3 T
  have F4 := ok_is_fraction (P := P) (w := w) (base := base) D4 T F0 F1
  have F5 := ok_is_weight (P := P) (w := w) (base := base) D5 T F0
  have F6 := ok_is_breadth (P := P) (w := w) (base := base) D6 T F4 F3
  have F7 := ok_is_box (P := P) (w := w) (base := base) D7 T F4 F6 F5
  have F8 := ok_is_room (P := P) (w := w) (base := base) D8 T F6
  have F9 := ok_far_side (P := P) (w := w) (base := base) D9 T F2
  have F10 := ok_have_in_common (P := P) (w := w) (base := base) D10 T F3 F9
  have F11 := ok_overlap (P := P) (w := w) (base := base) D11 T F10
  have F12 := ok_law_cell (P := P) (w := w) (base := base) D12 T
  have F13 := ok_law_mix (P := P) (w := w) (base := base) D13 T
  have F14 := ok_law_box (P := P) (w := w) (base := base) D14 T F12 F13
  have F15 := ok_law_take (P := P) (w := w) (base := base) D15 T
  have F16 := ok_law_fit (P := P) (w := w) (base := base) D16 T
  have F17 := ok_law_plus (P := P) (w := w) (base := base) D17 T F16
  have F18 := ok_law_less (P := P) (w := w) (base := base) D18 T
  have F19 := ok_law_whole (P := P) (w := w) (base := base) D19 T
  have F20 := ok_law_odd (P := P) (w := w) (base := base) D20 T F15
  have F21 := ok_law_is_fraction (P := P) (w := w) (base := base) D21 T F19 F16
  have F22 := ok_law_box_due (P := P) (w := w) (base := base) D22 T F21 F19
  have F23 := ok_law_room_due (P := P) (w := w) (base := base) D23 T F21
  have F24 := ok_law_room (P := P) (w := w) (base := base) D24 T F15 F16
  have F25 := ok_law_apart (P := P) (w := w) (base := base) D25 T F18 F17
  have F26 := ok_law_overlap (P := P) (w := w) (base := base) D26 T F25
  have F27 := ok_law_spoilt (P := P) (w := w) (base := base) D27 T F15
  have F28 := ok_law_boxes (P := P) (w := w) (base := base) D28 T F15 F16 F18 F17 F25
  have F29 := ok_law (P := P) (w := w) (base := base) D29 T F14 F24 F28 F20 F27 F7 F22 F8 F23 F11 F26 F17 F16 F15
  exact F29
end Prf
open PySem PySem.W PyProof.Rows
set_option maxRecDepth 100000 in
set_option maxHeartbeats 0 in
theorem PySem.Challenge.cw_knockwright_k71_boxes_known_holds : PySem.Challenge.rw_knockwright_k71_boxes_known.Holds := by
  w_on; o_law; k_head; (case hw => w_witness2)
  k_fill
  refine Kw.walk_kw (pn := "script") (l := PySem.Challenge.rw_knockwright_k71_boxes_known) (k := 6) rfl rfl ⟨rfl, by decide, by decide⟩ (fun w h Y => PySem.W.kIn_of Y) rfl ?F
  case F =>
    intro w mg h KX G
    refine' Prf.all_mk KX G ?b_isinstance ?b_int ?b_bool ?b_tuple ?b_list ?b_abs ?b_len ?b_divmod ?b_range ?b_max ?b_min ?b_all ?i_LONG_BITS ?i_MOST_WEIGHT ?c_NOUGHT ?z_NOUGHT ?i_ACROSS ?i_ALONG ?i_SIZES ?a0 ?l0 ?q0 ?k0 ?a1 ?l1 ?q1 ?k1 ?a2 ?l2 ?q2 ?k2 ?a3 ?l3 ?q3 ?k3 ?a4 ?l4 ?q4 ?k4 ?a5 ?l5 ?q5 ?k5 ?a6 ?l6 ?q6 ?k6 ?a7 ?l7 ?q7 ?k7 ?a8 ?l8 ?q8 ?k8 ?a9 ?l9 ?q9 ?k9 ?a10 ?l10 ?q10 ?k10 ?a11 ?l11 ?q11 ?k11 ?a12 ?l12 ?q12 ?k12 ?a13 ?l13 ?q13 ?k13 ?a14 ?l14 ?q14 ?k14 ?a15 ?l15 ?q15 ?k15 ?a16 ?l16 ?q16 ?k16 ?a17 ?l17 ?q17 ?k17 ?a18 ?l18 ?q18 ?k18 ?a19 ?l19 ?q19 ?k19 ?a20 ?l20 ?q20 ?k20 ?a21 ?l21 ?q21 ?k21 ?a22 ?l22 ?q22 ?k22 ?a23 ?l23 ?q23 ?k23 ?a24 ?l24 ?q24 ?k24 ?a25 ?l25 ?q25 ?k25 ?a26 ?l26 ?q26 ?k26 ?a27 ?l27 ?q27 ?k27 ?a28 ?l28 ?q28 ?k28 ?a29 ?l29 ?q29 ?k29
    (case b_isinstance => k_is)
    (case b_int => k_is)
    (case b_bool => k_is)
    (case b_tuple => k_is)
    (case b_list => k_is)
    (case b_abs => k_is)
    (case b_len => k_is)
    (case b_divmod => k_is)
    (case b_range => k_is)
    (case b_max => k_is)
    (case b_min => k_is)
    (case b_all => k_is)
    (case i_LONG_BITS => k_is)
    (case i_MOST_WEIGHT => k_is)
    (case c_NOUGHT => k_is)
    (case z_NOUGHT => k_is)
    (case i_ACROSS => k_is)
    (case i_ALONG => k_is)
    (case i_SIZES => k_is)
    (case a0 => k_is)
    (case l0 => k_is)
    (case q0 => k_is)
    (case k0 => k_is)
    (case a1 => k_is)
    (case l1 => k_is)
    (case q1 => k_is)
    (case k1 => k_is)
    (case a2 => k_is)
    (case l2 => k_is)
    (case q2 => k_is)
    (case k2 => k_is)
    (case a3 => k_is)
    (case l3 => k_is)
    (case q3 => k_is)
    (case k3 => k_is)
    (case a4 => k_is)
    (case l4 => k_is)
    (case q4 => k_is)
    (case k4 => k_is)
    (case a5 => k_is)
    (case l5 => k_is)
    (case q5 => k_is)
    (case k5 => k_is)
    (case a6 => k_is)
    (case l6 => k_is)
    (case q6 => k_is)
    (case k6 => k_is)
    (case a7 => k_is)
    (case l7 => k_is)
    (case q7 => k_is)
    (case k7 => k_is)
    (case a8 => k_is)
    (case l8 => k_is)
    (case q8 => k_is)
    (case k8 => k_is)
    (case a9 => k_is)
    (case l9 => k_is)
    (case q9 => k_is)
    (case k9 => k_is)
    (case a10 => k_is)
    (case l10 => k_is)
    (case q10 => k_is)
    (case k10 => k_is)
    (case a11 => k_is)
    (case l11 => k_is)
    (case q11 => k_is)
    (case k11 => k_is)
    (case a12 => k_is)
    (case l12 => k_is)
    (case q12 => k_is)
    (case k12 => k_is)
    (case a13 => k_is)
    (case l13 => k_is)
    (case q13 => k_is)
    (case k13 => k_is)
    (case a14 => k_is)
    (case l14 => k_is)
    (case q14 => k_is)
    (case k14 => k_is)
    (case a15 => k_is)
    (case l15 => k_is)
    (case q15 => k_is)
    (case k15 => k_is)
    (case a16 => k_is)
    (case l16 => k_is)
    (case q16 => k_is)
    (case k16 => k_is)
    (case a17 => k_is)
    (case l17 => k_is)
    (case q17 => k_is)
    (case k17 => k_is)
    (case a18 => k_is)
    (case l18 => k_is)
    (case q18 => k_is)
    (case k18 => k_is)
    (case a19 => k_is)
    (case l19 => k_is)
    (case q19 => k_is)
    (case k19 => k_is)
    (case a20 => k_is)
    (case l20 => k_is)
    (case q20 => k_is)
    (case k20 => k_is)
    (case a21 => k_is)
    (case l21 => k_is)
    (case q21 => k_is)
    (case k21 => k_is)
    (case a22 => k_is)
    (case l22 => k_is)
    (case q22 => k_is)
    (case k22 => k_is)
    (case a23 => k_is)
    (case l23 => k_is)
    (case q23 => k_is)
    (case k23 => k_is)
    (case a24 => k_is)
    (case l24 => k_is)
    (case q24 => k_is)
    (case k24 => k_is)
    (case a25 => k_is)
    (case l25 => k_is)
    (case q25 => k_is)
    (case k25 => k_is)
    (case a26 => k_is)
    (case l26 => k_is)
    (case q26 => k_is)
    (case k26 => k_is)
    (case a27 => k_is)
    (case l27 => k_is)
    (case q27 => k_is)
    (case k27 => k_is)
    (case a28 => k_is)
    (case l28 => k_is)
    (case q28 => k_is)
    (case k28 => k_is)
    (case a29 => k_is)
    (case l29 => k_is)
    (case q29 => k_is)
    (case k29 => k_is)
