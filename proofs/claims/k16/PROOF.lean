import PyProof.Rows.All
import Wide.All
import OpenK.AllK
import Wide.FinOn
import Lean
import PyProof.EqAt
import PyProof.EqKinds
import PyProof.TupleCall
import PyProof.ExcBaseAll.ValueError
import PyProof.P3Eq
import PyProof.NeData
import PyProof.DictTable
import KE.KEqDict
import PySem.Challenge.RW_knockwright_k16_whole_parting_turned_bac
set_option Elab.async false
set_option linter.all false
set_option maxRecDepth 100000
namespace L2
open PySem PySem.Spec PyProof.Rows
abbrev Key := Sum Int Str
def keyIs : Key → Value → Bool
  | .inl k, v => Value.isInt k v
  | .inr x, v => Value.isStrOf x v
def keyH (w : World) : Key → Int
  | .inl k => hashInt k
  | .inr x => hashStr w x
theorem keyIs_shape : ∀ {k : Key} {v : Value}, keyIs k v = true → (∃ i t, k = Sum.inl i ∧ v = Value.int i t) ∨ (∃ x t, k = Sum.inr x ∧ v = Value.str x t)
  | .inl i, v, h => by
    obtain ⟨t, e⟩ := Value.isInt_shape (k := i) (v := v) h
    exact .inl ⟨i, t, rfl, e⟩
  | .inr x, v, h => by
    obtain ⟨t, e⟩ := Value.isStrOf_shape (x := x) (v := v) h
    exact .inr ⟨x, t, rfl, e⟩
theorem key_ll (a b : Int) : decide ((Sum.inl a : Key) = Sum.inl b) = (a == b) := by
  by_cases e : a = b
  · subst e; simp
  · have h : ¬ (Sum.inl a : Key) = Sum.inl b := fun q => e (Sum.inl.inj q)
    rw [decide_eq_false h]
    exact (beq_eq_false_iff_ne.mpr e).symm
theorem key_rr (a b : Str) : decide ((Sum.inr a : Key) = Sum.inr b) = decide (a = b) := by
  by_cases e : a = b
  · subst e; simp
  · have h : ¬ (Sum.inr a : Key) = Sum.inr b := fun q => e (Sum.inr.inj q)
    rw [decide_eq_false h, decide_eq_false e]
theorem key_lr (a : Int) (b : Str) : decide ((Sum.inl a : Key) = Sum.inr b) = false := decide_eq_false (fun q => nomatch q)
theorem key_rl (a : Str) (b : Int) : decide ((Sum.inr a : Key) = Sum.inl b) = false := decide_eq_false (fun q => nomatch q)
def mixKind (prog : Program) (w : World) : PySem.KeyKind prog w Key where
  is := keyIs
  hash := keyH w
  inj := fun v a b ha hb => by
    rcases keyIs_shape ha with ⟨i, t, rfl, rfl⟩ | ⟨x, t, rfl, rfl⟩
    · rcases keyIs_shape hb with ⟨j, u, rfl, e⟩ | ⟨y, u, rfl, e⟩
      · injection e with e1 _; rw [e1]
      · exact nomatch e
    · rcases keyIs_shape hb with ⟨j, u, rfl, e⟩ | ⟨y, u, rfl, e⟩
      · exact nomatch e
      · injection e with e1 _; rw [e1]
  byValue := fun k v h => by
    rcases keyIs_shape h with ⟨i, t, rfl, rfl⟩ | ⟨x, t, rfl, rfl⟩ <;> rfl
  pyHash := fun hv h => by
    rcases keyIs_shape hv with ⟨i, t, rfl, rfl⟩ | ⟨x, t, rfl, rfl⟩
    · exact wpAny_pyHash_int h
    · exact wpAny_pyHash_str h
  eqBool := fun hu hv h => by
    rcases keyIs_shape hu with ⟨i, t, rfl, rfl⟩ | ⟨x, t, rfl, rfl⟩
    · rcases keyIs_shape hv with ⟨j, u, rfl, rfl⟩ | ⟨y, u, rfl, rfl⟩
      · rw [key_ll] at h; exact wpAny_eqBool_int h
      · rw [key_lr] at h; exact SeqAt.EqAt.int_str i t y u _ _ _ _ h
    · rcases keyIs_shape hv with ⟨j, u, rfl, rfl⟩ | ⟨y, u, rfl, rfl⟩
      · rw [key_rl] at h; exact SeqAt.EqAt.str_int x t j u _ _ _ _ h
      · rw [key_rr] at h; exact wpAny_eqBool_str h
  «strs» := fun k x t v h => by
    rcases keyIs_shape h with ⟨i, u, rfl, e⟩ | ⟨y, u, rfl, e⟩
    · exact nomatch e
    · injection e with e1 _
      subst e1
      cases v <;> rfl
end L2
namespace L2
open PySem PySem.Spec PyProof.Rows
inductive V where
  | non | bl (b : Bool) | int (i : Int) | str (x : Str) | byt (b : Array UInt8) | flt (b : UInt64) | ref (a : Addr) | ty (n : String)
  deriving DecidableEq
def RelV : V → Value → Prop
  | .non, u => u = Value.none
  | .bl b, u => u = Value.bool b
  | .int i, u => ∃ t, u = Value.int i t
  | .str x, u => ∃ t, u = Value.str x t
  | .byt b, u => ∃ t, u = Value.bytes b t
  | .flt b, u => ∃ t, u = Value.float b t
  | .ref a, u => u = Value.ref a
  | .ty n, u => u = Value.type n
abbrev Vals : List V → List Value → Prop := Paired RelV
theorem Vals.length {xs : List V} {us : List Value} (r : Vals xs us) : xs.length = us.length := Paired.length r
theorem Vals.get : ∀ {xs : List V} {us : List Value} {i : Nat} {x : V}, Vals xs us → xs[i]? = some x → ∃ u, us[i]? = some u ∧ RelV x u
  | _, _, _, _, .nil, e => by simp at e
  | _, _, 0, _, .cons r _, e => by simp at e; subst e; exact ⟨_, rfl, r⟩
  | _, _, i + 1, x, .cons _ t, e => by
    obtain ⟨u, h1, h2⟩ := Vals.get (i := i) (x := x) t (by simpa using e)
    exact ⟨u, by simpa using h1, h2⟩
theorem Vals.set {x : V} {u : Value} (r : RelV x u) : ∀ {xs : List V} {us : List Value} (i : Nat), Vals xs us → Vals (xs.set i x) (us.set i u)
  | _, _, _, .nil => .nil
  | _, _, 0, .cons _ t => .cons r t
  | _, _, i + 1, .cons q t => .cons q (Vals.set r i t)
theorem Vals.append : ∀ {xs ys : List V} {us ws : List Value}, Vals xs us → Vals ys ws → Vals (xs ++ ys) (us ++ ws)
  | _, _, _, _, .nil, s => s
  | _, _, _, _, .cons r t, s => .cons r (Vals.append t s)
def RelO : Option V → Option Value → Prop
  | some v, some u => RelV v u
  | none, none => True
  | _, _ => False
def KV {κ : Type} : List (κ × V) → List (κ × Value) → Prop := Paired fun (p : κ × V) (q : κ × Value) => p.1 = q.1 ∧ RelV p.2 q.2
def kV : Key → V
  | .inl i => .int i
  | .inr x => .str x
inductive HO where
  | lst (xs : List V)
  | tup (xs : List V)
  | dK (kvs : List (Key × V)) | dT (kvs : List (List Key × V))
  | set (S : Int → Bool) (n : Nat)
  | ins (C dx : Addr) (fs : List (Str × V))
  | own (x : Addr)
  | xd (fs : List (Str × V))
  | met (f x : Addr)
  | rng (lo hi : Int)
  | frz (o : Obj) (u : HO)
  | tbl (ps : Array Value)
  | ext (φ : Heap → Prop)
abbrev Hp := Addr → Option HO
def upd (H : Hp) (a : Addr) (o : HO) : Hp := fun b => if b = a then some o else H b
theorem upd_same {H : Hp} {a : Addr} {o : HO} : upd H a o a = some o := by unfold upd; rw [if_pos rfl]
theorem upd_ne {H : Hp} {a b : Addr} {o : HO} (h : b ≠ a) : upd H a o b = H b := by unfold upd; rw [if_neg h]
theorem ne_of {H : Hp} {a b : Addr} {o u : HO} (h : H a = some o) (h' : H b = some u) (d : o ≠ u) : a ≠ b := by
  intro e; subst e; rw [h] at h'; exact d (Option.some.inj h')
theorem ne_of_none {H : Hp} {a b : Addr} {o : HO} (h : H a = some o) (h' : H b = none) : a ≠ b := by
  intro e; subst e; rw [h] at h'; cases h'
section
variable (P : Program) (w : World)
def ObjOk (H : Hp) (h : Heap) (a : Addr) : HO → Prop
  | .lst xs => xs.length ≤ sizeLine ∧ ∃ (its : List Value) (n : Nat), Vals xs its ∧ h.get? a = some { cls := .type "list", data := .seq its.toArray n }
  | .tup xs => xs.length ≤ sizeLine ∧ ∃ its : List Value, Vals xs its ∧ IsTup h a its.toArray
  | .dK kvs => kvs.length ≤ sizeLine ∧ (a == sysModules) = false ∧ ∃ vs, KV kvs vs ∧ h.DictOf (mixKind P w) a vs
  | .dT kvs => kvs.length ≤ sizeLine ∧ (a == sysModules) = false ∧ ∃ xs : List (List Key × Addr × Value),
      Paired (fun (p : List Key × V) (q : List Key × Addr × Value) => p.1 = q.1 ∧ H q.2.1 = some (.tup (p.1.map kV)) ∧ RelV p.2 q.2.2) kvs xs ∧
      ∃ o es ep, h.get? a = some o ∧ o.ExactDict ∧ o.data = .dict es ep ∧ es.toList = xs.map (entryOfKey (tupleKind (mixKind P w))) ∧ (xs.map (·.1)).Nodup
  | .set S n => h.SetOf (intKind P w) a S n
  | .ins C dx fs => H dx = some (.own a) ∧ fs.length ≤ 1000 ∧ dx ≠ a ∧ h.get? a = some (PySem.W.instObj C dx) ∧
      ∃ mA, h.Ns1 dx mA ∧ (∀ f, RelO (fs.lookup f) (mA f)) ∧ PySem.Within mA (fs.map (·.1))
  | .own _ => ∃ o, h.get? a = some o
  | .xd fs => ∃ mA, h.Ns1 a mA ∧ ∀ f, RelO (fs.lookup f) (mA f)
  | .rng lo hi => ∃ t u v, h.get? a = some { cls := .type "range", data := .fields #[.int lo t, .int hi u, .int 1 v] }
  | .frz o u => h.get? a = some o ∧ ObjOk H h a u
  | .tbl ps => h.get? a = some { cls := .none, data := .fields ps }
  | .met f x => h.get? a = some (PySem.W.methodObj (.ref f) (.ref x))
  | .ext φ => φ h ∧ (∃ o, h.get? a = some o) ∧ ∀ h1 h2 : Heap, φ h1 → (∀ o, h1.get? a = some o → h2.get? a = some o) → φ h2
def HOk (H : Hp) (h : Heap) : Prop := ∀ a o, H a = some o → ObjOk P w H h a o
end
section
variable {P : Program} {w : World} {H H' : Hp} {h h' : Heap} {a : Addr} {o : HO}
theorem ObjOk.lt (x : ObjOk P w H h a o) : a < h.objs.size := by
  cases o with
  | lst xs => obtain ⟨_, _, _, _, e⟩ := x; exact Heap.lt_size e
  | tup xs => obtain ⟨_, _, _, p⟩ := x; exact p.lt
  | dK kvs => obtain ⟨_, _, _, _, o, _, _, e, _⟩ := x; exact Heap.lt_size e
  | dT kvs => obtain ⟨_, _, _, _, o, _, _, e, _⟩ := x; exact Heap.lt_size e
  | set S n => obtain ⟨o, _, _, _, e, _⟩ := x; exact Heap.lt_size e
  | ins C dx fs => obtain ⟨_, _, _, e, _⟩ := x; exact Heap.lt_size e
  | own y => obtain ⟨_, e⟩ := x; exact Heap.lt_size e
  | xd fs => obtain ⟨_, ⟨_, _, _, e, _⟩, _⟩ := x; exact Heap.lt_size e
  | rng lo hi => obtain ⟨_, _, _, e⟩ := x; exact Heap.lt_size e
  | frz ob u => obtain ⟨e, _⟩ := x; exact Heap.lt_size e
  | tbl ps => exact Heap.lt_size (show h.get? a = some _ from x)
  | met f y => exact Heap.lt_size (show h.get? a = some _ from x)
  | ext φ => obtain ⟨_, ⟨_, e⟩, _⟩ := x; exact Heap.lt_size e
theorem Paired.mapP {α β : Type} {F G : α → β → Prop} : ∀ {l₁ : List α} {l₂ : List β}, Paired F l₁ l₂ → (∀ a b, F a b → G a b) → Paired G l₁ l₂
  | _, _, .nil, _ => .nil
  | _, _, .cons r t, f => .cons (f _ _ r) (Paired.mapP t f)
theorem ObjOk.stay (x : ObjOk P w H h a o) (k : ∀ b u, (b = a ∨ H b = some (.own a)) → h.get? b = some u → h'.get? b = some u)
    (ho : ∀ b, H b = some (.own a) → H' b = some (.own a)) (ht : ∀ b xs, H b = some (.tup xs) → H' b = some (.tup xs)) : ObjOk P w H' h' a o := by
  induction o with
  | lst xs => obtain ⟨z, its, n, r, e⟩ := x; exact ⟨z, its, n, r, k _ _ (.inl rfl) e⟩
  | tup xs => obtain ⟨z, its, r, ob, e, c⟩ := x; exact ⟨z, its, r, ob, k _ _ (.inl rfl) e, c⟩
  | dK kvs => obtain ⟨z, y, vs, r, ob, es, ep, e, c⟩ := x; exact ⟨z, y, vs, r, ob, es, ep, k _ _ (.inl rfl) e, c⟩
  | dT kvs =>
    obtain ⟨z, y, xs, r, ob, es, ep, e, c⟩ := x
    exact ⟨z, y, xs, Paired.mapP r fun p q z => ⟨z.1, ht _ _ z.2.1, z.2.2⟩, ob, es, ep, k _ _ (.inl rfl) e, c⟩
  | set S n => obtain ⟨ob, es, ep, t, e, c⟩ := x; exact ⟨ob, es, ep, t, k _ _ (.inl rfl) e, c⟩
  | ins C dx fs =>
    obtain ⟨d, z, ne, e, mA, ⟨od, es, ep, e2, c⟩, r⟩ := x
    exact ⟨ho _ d, z, ne, k _ _ (.inl rfl) e, mA, ⟨od, es, ep, k _ _ (.inr d) e2, c⟩, r⟩
  | own y => obtain ⟨ob, e⟩ := x; exact ⟨ob, k _ _ (.inl rfl) e⟩
  | xd fs => obtain ⟨mA, ⟨od, es, ep, e, c⟩, r⟩ := x; exact ⟨mA, ⟨od, es, ep, k _ _ (.inl rfl) e, c⟩, r⟩
  | rng lo hi => obtain ⟨t, u, v, e⟩ := x; exact ⟨t, u, v, k _ _ (.inl rfl) e⟩
  | frz ob u ih => obtain ⟨e, q⟩ := x; exact ⟨k _ _ (.inl rfl) e, ih q⟩
  | tbl ps =>
    have e : h.get? a = some { cls := .none, data := .fields ps } := x
    show h'.get? a = some { cls := .none, data := .fields ps }
    exact k a _ (.inl rfl) e
  | met f y =>
    have e : h.get? a = some (PySem.W.methodObj (.ref f) (.ref y)) := x
    show h'.get? a = some (PySem.W.methodObj (.ref f) (.ref y))
    exact k a _ (.inl rfl) e
  | ext φ => obtain ⟨p, ⟨o, e⟩, st⟩ := x; exact ⟨st _ _ p fun o q => k _ _ (.inl rfl) q, ⟨o, k _ _ (.inl rfl) e⟩, st⟩
theorem HOk.lt (x : HOk P w H h) (e : H a = some o) : a < h.objs.size := (x a o e).lt
theorem HOk.fresh (x : HOk P w H h) (e : h.objs.size ≤ a) : H a = none := by
  cases q : H a with
  | none => rfl
  | some u => exact absurd (Nat.lt_of_lt_of_le (x.lt q) e) (Nat.lt_irrefl _)
theorem HOk.kept (x : HOk P w H h) (k : ∀ b u, h.get? b = some u → h'.get? b = some u) : HOk P w H h' := fun a o e =>
  (x a o e).stay (fun b u _ q => k b u q) (fun _ q => q) fun _ _ q => q
theorem HOk.laid (x : HOk P w H h) (k : ∀ b u, h.get? b = some u → h'.get? b = some u) (hp : h.objs.size ≤ a) (new : ObjOk P w (upd H a o) h' a o) : HOk P w (upd H a o) h' := fun b u e => by
  have hn := x.fresh hp
  by_cases hb : b = a
  · subst hb; rw [upd_same] at e; cases e; exact new
  · rw [upd_ne hb] at e
    exact (x b u e).stay (fun c v _ q => k c v q) (fun c q => by rw [upd_ne (ne_of_none q hn)]; exact q) fun c xs q => by rw [upd_ne (ne_of_none q hn)]; exact q
end
def Rd (H : Hp) (a : Addr) (u : HO) : Prop := H a = some u ∨ ∃ o, H a = some (.frz o u)
theorem Rd.ok {P : Program} {w : World} {H : Hp} {h : Heap} {a : Addr} {u : HO} (r : Rd H a u) (x : HOk P w H h) : ObjOk P w H h a u := by
  rcases r with r | ⟨o, r⟩
  · exact x a u r
  · obtain ⟨_, q⟩ := x a _ r
    exact q
def Mut : Option HO → Prop
  | some (.lst _) => True
  | some (.dK _) => True
  | some (.dT _) => True
  | some (.set _ _) => True
  | some (.ins _ _ _) => True
  | some (.ext _) => True
  | _ => False
section
variable {P : Program} {w : World} {H : Hp} {h h' : Heap} {x e : Addr} {o' : HO}
theorem HOk.write (ok : HOk P w H h) (mu : Mut (H x)) (he : e = x ∨ H e = some (.own x)) (k : ∀ b u, b ≠ e → h.get? b = some u → h'.get? b = some u) (heo : ∃ u, h'.get? e = some u)
    (new : ObjOk P w (upd H x o') h' x o') : HOk P w (upd H x o') h' := fun b u q => by
  have nown : ∀ c y, H c = some (.own y) → c ≠ x := fun c y r z => by subst z; rw [r] at mu; exact mu
  have ntup : ∀ c xs, H c = some (.tup xs) → c ≠ x := fun c xs r z => by subst z; rw [r] at mu; exact mu
  by_cases hb : b = x
  · subst hb; rw [upd_same] at q; cases q; exact new
  · rw [upd_ne hb] at q
    by_cases hbe : b = e
    · have q' : H b = some (.own x) := by
        rcases he with z | z
        · exact absurd (hbe.trans z) hb
        · rw [hbe]; exact z
      rw [q] at q'; cases q'
      obtain ⟨v, hv⟩ := heo
      exact ⟨v, by rw [hbe]; exact hv⟩
    · refine (ok b u q).stay (fun c v hc r => k c v ?_ r) (fun c r => by rw [upd_ne (nown c b r)]; exact r) fun c xs r => by rw [upd_ne (ntup c xs r)]; exact r
      rcases hc with rfl | hc
      · exact hbe
      · rintro rfl
        rcases he with z | z
        · exact nown c b hc z
        · rw [hc] at z; cases z; exact hb rfl
end
structure Un (fs ex : List Addr) (H H' : Hp) (h h' : Heap) : Prop where
  keep : ∀ b o, h.get? b = some o → H b = none → b ∉ fs → b ∉ ex → h'.get? b = some o
  slot : ∀ b o, h.get? b = some o → H b = none → b ∈ fs → b ∉ ex → ∃ sl, h'.get? b = some { o with slots := sl }
  free : ∀ b o, h.get? b = some o → H b = none → b ∉ ex → H' b = none
  there : ∀ b o, h.get? b = some o → b ∉ ex → ∃ o', h'.get? b = some o'
  tups : ∀ b xs, H b = some (.tup xs) → H' b = some (.tup xs)
  frzs : ∀ b o u, H b = some (.frz o u) → H' b = some (.frz o u)
  tbls : ∀ b ps, H b = some (.tbl ps) → ∃ more, H' b = some (.tbl (ps ++ more))
section
variable {fs fs' ex ex' : List Addr} {H H1 H2 : Hp} {h h1 h2 h' : Heap} {a x e : Addr} {o : HO}
theorem Un.any (u : Un fs ex H H1 h h1) {b : Addr} {ob : Obj} (q : h.get? b = some ob) (n : H b = none) (hx : b ∉ ex) : ∃ sl, h1.get? b = some { ob with slots := sl } := by
  by_cases hb : b ∈ fs
  · exact u.slot b ob q n hb hx
  · exact ⟨ob.slots, u.keep b ob q n hb hx⟩
theorem Un.kept (k : ∀ b u, h.get? b = some u → h'.get? b = some u) : Un fs ex H H h h' :=
  ⟨fun b ob q _ _ _ => k b ob q, fun b ob q _ _ _ => ⟨ob.slots, k b ob q⟩, fun _ _ _ n _ => n, fun b ob q _ => ⟨ob, k b ob q⟩, fun _ _ q => q, fun _ _ _ q => q, fun _ ps q => ⟨#[], by rw [q]; simp⟩⟩
theorem Un.refl : Un fs ex H H h h := Un.kept fun _ _ q => q
theorem Un.laid (k : ∀ b u, h.get? b = some u → h'.get? b = some u) (hp : h.objs.size ≤ a) (hn : H a = none) : Un fs ex H (upd H a o) h h' where
  keep := fun b u q _ _ _ => k b u q
  slot := fun b u q _ _ _ => ⟨u.slots, k b u q⟩
  free := fun b u q n _ => by rw [upd_ne (Nat.ne_of_lt (Nat.lt_of_lt_of_le (Heap.lt_size q) hp))]; exact n
  there := fun b u q _ => ⟨u, k b u q⟩
  tups := fun b xs q => by rw [upd_ne (ne_of_none q hn)]; exact q
  frzs := fun b u xs q => by rw [upd_ne (ne_of_none q hn)]; exact q
  tbls := fun b ps q => ⟨#[], by rw [upd_ne (ne_of_none q hn), q]; simp⟩
theorem Un.write (mu : Mut (H x)) (he : e = x ∨ H e = some (.own x)) (k : ∀ b u, b ≠ e → h.get? b = some u → h'.get? b = some u) (heo : ∃ u, h'.get? e = some u) : Un fs ex H (upd H x o) h h' := by
  have hx : ∀ b, H b = none → b ≠ x := fun b n z => by subst z; rw [n] at mu; exact mu
  have hb : ∀ b, H b = none → b ≠ e := fun b n z => by
    subst z
    rcases he with r | r
    · exact hx b n r
    · rw [n] at r; cases r
  have hm : ∀ b u, H b = some u → ¬ Mut (some u) → b ≠ x := fun b u q nm z => by subst z; rw [q] at mu; exact nm mu
  refine ⟨fun b u q n _ _ => k b u (hb b n) q, fun b u q n _ _ => ⟨u.slots, k b u (hb b n) q⟩, fun b u q n _ => by rw [upd_ne (hx b n)]; exact n, fun b u q _ => ?_,
    fun b xs q => by rw [upd_ne (hm b _ q fun z => z)]; exact q, fun b u xs q => by rw [upd_ne (hm b _ q fun z => z)]; exact q, fun b ps q => ⟨#[], by rw [upd_ne (hm b _ q fun z => z), q]; simp⟩⟩
  by_cases hbe : b = e
  · subst hbe; exact heo
  · exact ⟨u, k b u hbe q⟩
end
def trk (h : Heap) (H : Hp) : List Addr := (List.range h.objs.size).filter fun a => (H a).isSome
def hidT (h : Heap) (H : Hp) : Heap := PySem.W.hideAll h (trk h H)
theorem hidT_size (h : Heap) (H : Hp) : (hidT h H).objs.size = h.objs.size := PySem.W.hideAll_size _ _
theorem hidT_get {h : Heap} {H : Hp} {b : Addr} {o : Obj} (e : h.get? b = some o) (n : H b = none) : (hidT h H).get? b = some o :=
  PySem.W.hideAll_get _ e fun hm => by
    have q : (H b).isSome = true := (List.mem_filter.mp hm).2
    rw [n] at q; simp at q
theorem of_hidT {h : Heap} {H : Hp} {b : Addr} {o : Obj} (e : (hidT h H).get? b = some o) : h.get? b = some o ∧ H b = none := by
  have e' : h.get? b = some o := PySem.W.of_hideAll (trk h H) e
  refine ⟨e', ?_⟩
  cases q : H b with
  | none => rfl
  | some x =>
    have hm : b ∈ trk h H := List.mem_filter.mpr ⟨List.mem_range.mpr (Heap.lt_size e'), by simp [q]⟩
    have z : (hidT h H).get? b = none := PySem.W.hideAll_none (trk h H) hm
    rw [z] at e; cases e
end L2
namespace L2
open PySem PySem.Spec PyProof.Rows
structure Mod (K : PySem.W.Frag) (mg : Str → Option Value) (base : Heap) : Prop where
  kin : K.In base
  glob : base.Ns mainGlobals mg
  blt : ∃ mb, base.Ns builtinsNs mb ∧ ∀ x : Str, x ≠ "__name__" → mb x = bootBuiltins x
  nolimit : base.NoLimit
structure Cx where
  prog : Program
  w : World
  K : PySem.W.Frag
  mg : Str → Option Value
  base : Heap
  A : Around
  N : List Str
  s₀ : Shared
  H₀ : Hp
  env : Env
  outer : List Env
  stack : List Env
  ex : List Addr
  fn : Str → Bool
  calm : Bool
  pn : List (Addr × Obj)
  xe : Value → Shared → Prop
def frs (l : List Env) : List Addr := l.filterMap (·.frame)
abbrev Cx.fs (X : Cx) : List Addr := frs X.outer
def Vis (sc : Scope) (x : Str) : Prop := sc.names.lookup x = some .local ∨ sc.names.lookup x = some .cell ∨ sc.names.lookup x = some .free
def Loc (sc : Scope) (x : Str) : Prop := sc.names.lookup x = some .local ∨ sc.names.lookup x = some .cell
def Look (env : Env) (h : Heap) (m : Str → Option Value) (x : Str) (u : Value) : Prop :=
  (env.kindOf x = some .local ∧ m x = some u) ∨ ((env.kindOf x = some .cell ∨ env.kindOf x = some .free) ∧ ∃ c, env.cells.lookup x = some c ∧ h.IsCell c (some u))
structure Cx.Ok (X : Cx) : Prop where
  mod : Mod X.K X.mg X.base
  kind : X.env.scope.kind = .function
  glob : X.env.globals = mainGlobals
  blt : X.env.builtins = builtinsNs
  above : X.s₀.heap.objs.size ≤ X.env.locals
  inj : ∀ x y c, X.env.cells.lookup x = some c → X.env.cells.lookup y = some c → x = y
  has : ∀ x, (X.env.kindOf x = some .cell ∨ X.env.kindOf x = some .free) → ∃ c, X.env.cells.lookup x = some c
  cab : ∀ x c, X.fn x = true → X.env.cells.lookup x = some c → X.s₀.heap.objs.size ≤ c
  hd : X.calm = true → X.A.handled = none
  frames : X.A.frames = some X.stack
  stk : X.stack = X.outer ∨ (X.stack = X.env :: X.outer ∧ X.env.frame = some X.env.locals)
  exf : ∀ b ∈ X.ex, b ≠ X.env.locals ∧ ∀ x c, X.env.cells.lookup x = some c → c ≠ b
  bs : ∀ b o, X.base.get? b = some o → X.s₀.heap.get? b = some o ∧ X.H₀ b = none
  bsz : X.base.objs.size ≤ X.s₀.heap.objs.size
  noex : ∀ b o, X.base.get? b = some o → b ∉ X.ex
  exfs : ∀ b ∈ X.ex, b ∉ X.fs
  funs : X.s₀.heap.FunFrames X.base X.outer
  frf : ∀ b ∈ X.fs, X.H₀ b = none
structure Inv (X : Cx) (pins : List (Addr × Obj)) (σ : List (Option V)) (H : Hp) (s : Shared) : Prop where
  ok : X.Ok
  os : s.os = X.s₀.os
  bare : AllBare s.gens
  base : Un X.fs X.ex X.H₀ H X.s₀.heap s.heap
  loc : ∃ m, s.heap.Ns X.env.locals m ∧ ∀ (i : Nat) (x : Str) (v : V), X.N[i]? = some x → σ[i]? = some (some v) → Vis X.env.scope x → ∃ u, RelV v u ∧ Look X.env s.heap m x u
  cell : ∀ x c, X.env.cells.lookup x = some c → ∃ v, s.heap.IsCell c v
  free : H X.env.locals = none
  freeC : ∀ x c, X.env.cells.lookup x = some c → H c = none
  pin : ∀ p ∈ X.pn ++ pins, s.heap.get? p.1 = some p.2 ∧ H p.1 = none ∧ p.1 ≠ X.env.locals ∧ p.1 ∉ X.fs ∧ ∀ v, p.2.data ≠ .cell v
  hok : HOk X.prog X.w H s.heap
  len : σ.length = X.N.length
section
variable {X : Cx} {pins : List (Addr × Obj)} {σ : List (Option V)} {H H' : Hp} {s : Shared} {h' : Heap}
theorem Cx.Ok.nofr (ok : X.Ok) {b : Addr} {o : Obj} (e : X.base.get? b = some o) : b ∉ X.fs := fun hb => by
  have := (ok.funs.mem hb).1
  rw [e] at this; cases this
theorem Inv.bs (I : Inv X pins σ H s) : ∀ b o, X.base.get? b = some o → s.heap.get? b = some o ∧ H b = none := fun b o e =>
  ⟨I.base.keep b o (I.ok.bs b o e).1 (I.ok.bs b o e).2 (I.ok.nofr e) (I.ok.noex b o e), I.base.free b o (I.ok.bs b o e).1 (I.ok.bs b o e).2 (I.ok.noex b o e)⟩
theorem Inv.bk (I : Inv X pins σ H s) : ∀ b o, X.base.get? b = some o → s.heap.get? b = some o := fun b o e => (I.bs b o e).1
theorem Inv.mod (I : Inv X pins σ H s) : Mod X.K X.mg X.base := I.ok.mod
theorem Inv.kIn (I : Inv X pins σ H s) : X.K.In s.heap := I.ok.mod.kin.keeps I.bk
theorem Inv.lt (I : Inv X pins σ H s) : X.env.locals < s.heap.objs.size := let ⟨_, hn, _⟩ := I.loc; hn.lt
theorem Inv.sz (I : Inv X pins σ H s) : X.s₀.heap.objs.size ≤ s.heap.objs.size := Nat.le_trans I.ok.above (Nat.le_of_lt I.lt)
theorem Inv.nofs (I : Inv X pins σ H s) {a : Addr} (h : s.heap.objs.size ≤ a) : a ∉ X.fs := fun hb => by
  obtain ⟨_, o, ho, _⟩ := I.ok.funs.mem hb
  exact absurd (Nat.lt_of_lt_of_le (Heap.lt_size ho) (Nat.le_trans I.sz h)) (Nat.lt_irrefl _)
theorem Inv.cne (I : Inv X pins σ H s) : ∀ x c, X.env.cells.lookup x = some c → c ≠ X.env.locals := fun x c e z => by
  obtain ⟨v, o, ho, hd⟩ := I.cell x c e
  obtain ⟨m, ⟨o', es, ep, ho', hd', _⟩, _⟩ := I.loc
  rw [z, ho'] at ho; cases ho; rw [hd'] at hd; cases hd
theorem Inv.funs (I : Inv X pins σ H s) : s.heap.FunFrames X.base X.outer := by
  have all : ∀ (l : List Env), (∀ b ∈ frs l, b ∈ X.fs) → X.s₀.heap.FunFrames X.base l → s.heap.FunFrames X.base l := by
    intro l
    induction l with
    | nil => intro _ _; trivial
    | cons env r ih =>
      intro hs hl
      obtain ⟨hk, ⟨L, o, hf, hn, ho, hd⟩, hr⟩ := hl
      have hL : L ∈ X.fs := hs L (by unfold frs; rw [List.filterMap_cons, hf]; exact List.mem_cons_self)
      obtain ⟨sl, e⟩ := I.base.slot L o ho (I.ok.frf L hL) hL fun z => I.ok.exfs L z hL
      exact ⟨hk, ⟨L, _, hf, hn, e, hd⟩, ih (fun b hb => hs b (by unfold frs; rw [List.filterMap_cons, hf]; exact List.mem_cons_of_mem _ hb)) hr⟩
  exact all X.outer (fun _ hb => hb) I.ok.funs
theorem Inv.stack (I : Inv X pins σ H s) : s.heap.FunFrames X.base X.stack := by
  rcases I.ok.stk with e | ⟨e, hf⟩
  · rw [e]; exact I.funs
  · rw [e]
    obtain ⟨m, hn, _⟩ := I.loc
    refine .cons (by rw [I.ok.kind]; decide) hf hn ?_ I.funs
    exact Heap.get?_none_of_le (Nat.le_trans I.ok.bsz I.ok.above)
theorem Inv.stkSub (I : Inv X pins σ H s) : ∀ b ∈ frs X.stack, b ∈ X.env.locals :: X.fs := fun b hb => by
  rcases I.ok.stk with e | ⟨e, hf⟩
  · rw [e] at hb; exact List.mem_cons_of_mem _ hb
  · rw [e] at hb
    unfold frs at hb
    rw [List.filterMap_cons, hf] at hb
    exact hb
theorem Inv.stkFree (I : Inv X pins σ H s) : ∀ b ∈ frs X.stack, H b = none := fun b hb => by
  rcases List.mem_cons.mp (I.stkSub b hb) with e | hb
  · rw [e]; exact I.free
  · obtain ⟨_, o, ho, _⟩ := I.ok.funs.mem hb
    exact I.base.free b o ho (I.ok.frf b hb) fun z => I.ok.exfs b z hb
theorem Inv.step {g' : Array GenState} {t' : Nat} {d' : Drawn} {ch : List Addr} (I : Inv X pins σ H s)
    (hch : ∀ b ∈ ch, (b ∈ X.ex ∨ X.s₀.heap.objs.size ≤ b) ∧ b ≠ X.env.locals ∧ (∀ x c, X.env.cells.lookup x = some c → c ≠ b) ∧ ∀ p ∈ X.pn ++ pins, p.1 ≠ b)
    (keep : ∀ b o, b ≠ X.env.locals → b ∉ X.fs → b ∉ ch → s.heap.get? b = some o → H b = none → h'.get? b = some o)
    (slot : ∀ b o, b ≠ X.env.locals → b ∈ X.fs → b ∉ ch → s.heap.get? b = some o → H b = none → ∃ sl, h'.get? b = some { o with slots := sl }) (free : ∀ b o, b ∉ ch → s.heap.get? b = some o → H b = none → H' b = none)
    (there : ∀ b o, b ∉ ch → s.heap.get? b = some o → ∃ o', h'.get? b = some o')
    (tups : ∀ b xs, H b = some (.tup xs) → H' b = some (.tup xs)) (frzs : ∀ b o u, H b = some (.frz o u) → H' b = some (.frz o u)) (tbls : ∀ b ps, H b = some (.tbl ps) → ∃ more, H' b = some (.tbl (ps ++ more)))
    (ns : ∀ m, s.heap.Ns X.env.locals m → h'.Ns X.env.locals m) (hok : HOk X.prog X.w H' h') (hg : AllBare g') :
    Inv X pins σ H' { s with heap := h', gens := g', drawn := d', toks := t' } := by
  have neL : ∀ b o, X.s₀.heap.get? b = some o → b ≠ X.env.locals := fun b o e => Nat.ne_of_lt (Nat.lt_of_lt_of_le (Heap.lt_size e) I.ok.above)
  have neC : ∀ b o, X.s₀.heap.get? b = some o → b ∉ X.ex → b ∉ ch := fun b o e hx hb => by
    rcases (hch b hb).1 with z | z
    · exact hx z
    · exact absurd (Nat.lt_of_lt_of_le (Heap.lt_size e) z) (Nat.lt_irrefl _)
  have cellK : ∀ x c, X.env.cells.lookup x = some c → ∀ v, s.heap.IsCell c v → h'.IsCell c v := fun x c e v ⟨o, ho, hd⟩ => by
    have nch : c ∉ ch := fun z => (hch c z).2.2.1 x c e rfl
    by_cases hc : c ∈ X.fs
    · obtain ⟨sl, q⟩ := slot c o (I.cne x c e) hc nch ho (I.freeC x c e)
      exact ⟨_, q, hd⟩
    · exact ⟨o, keep c o (I.cne x c e) hc nch ho (I.freeC x c e), hd⟩
  refine ⟨I.ok, I.os, hg, ⟨fun b o e n hb hx => ?_, fun b o e n hb hx => ?_, fun b o e n hx => ?_, fun b o e hx => ?_, fun b xs e => tups b xs (I.base.tups b xs e), fun b o xs e => frzs b o xs (I.base.frzs b o xs e), fun b ps e => ?_⟩, ?_, fun x c e => ?_, ?_, fun x c e => ?_, fun p hp => ?_, hok, I.len⟩
  · exact keep b o (neL b o e) hb (neC b o e hx) (I.base.keep b o e n hb hx) (I.base.free b o e n hx)
  · obtain ⟨sl, e1⟩ := I.base.slot b o e n hb hx
    obtain ⟨sl', e2⟩ := slot b _ (neL b o e) hb (neC b o e hx) e1 (I.base.free b o e n hx)
    exact ⟨sl', e2⟩
  · obtain ⟨o', e1⟩ := I.base.there b o e hx
    exact free b o' (neC b o e hx) e1 (I.base.free b o e n hx)
  · obtain ⟨o', e1⟩ := I.base.there b o e hx
    exact there b o' (neC b o e hx) e1
  · obtain ⟨m1, e1⟩ := I.base.tbls b ps e
    obtain ⟨m2, e2⟩ := tbls b _ e1
    exact ⟨m1 ++ m2, by rw [e2, Array.append_assoc]⟩
  · obtain ⟨m, hn, hl⟩ := I.loc
    refine ⟨m, ns m hn, fun i x v e1 e2 e3 => ?_⟩
    obtain ⟨u, r, l⟩ := hl i x v e1 e2 e3
    refine ⟨u, r, ?_⟩
    rcases l with l | ⟨k, c, e, z⟩
    · exact .inl l
    · exact .inr ⟨k, c, e, cellK x c e _ z⟩
  · obtain ⟨v, z⟩ := I.cell x c e
    exact ⟨v, cellK x c e v z⟩
  · obtain ⟨m, ⟨o, _, _, ho, _⟩, _⟩ := I.loc
    exact free _ o (fun z => (hch _ z).2.1 rfl) ho I.free
  · obtain ⟨v, o, ho, hd⟩ := I.cell x c e
    exact free c o (fun z => (hch c z).2.2.1 x c e rfl) ho (I.freeC x c e)
  · obtain ⟨e, n, ne, nf, d⟩ := I.pin p hp
    have nch : p.1 ∉ ch := fun z => (hch p.1 z).2.2.2 p hp rfl
    exact ⟨keep p.1 p.2 ne nf nch e n, free p.1 p.2 nch e n, ne, nf, d⟩
theorem Inv.un {t' : Nat} (I : Inv X pins σ H s) (u : Un X.fs [] H H' s.heap h') (hok : HOk X.prog X.w H' h') : Inv X pins σ H' { s with heap := h', toks := t' } := by
  obtain ⟨m, ⟨o, es, ep, ho, r⟩, _⟩ := id I.loc
  obtain ⟨sl, hL⟩ := u.any ho I.free (by simp)
  exact I.step (g' := s.gens) (d' := s.drawn) (ch := []) (fun _ z => nomatch z) (fun b o _ hb _ e n => u.keep b o e n hb (by simp)) (fun b o _ hb _ e n => u.slot b o e n hb (by simp)) (fun b o _ e n => u.free b o e n (by simp)) (fun b o _ e => u.there b o e (by simp)) u.tups u.frzs u.tbls (fun m' hm => by
    obtain ⟨o', es', ep', ho', r'⟩ := hm
    rw [ho] at ho'; cases ho'
    exact ⟨_, es', ep', hL, r'⟩) hok I.bare
theorem Inv.call {g' : Array GenState} {t' : Nat} {d' : Drawn} {ch : List Addr} (I : Inv X pins σ H s) (u : Un (frs X.stack) ch H H' s.heap h') (hok : HOk X.prog X.w H' h') (hg : AllBare g')
    (hch : ∀ b ∈ ch, (b ∈ X.ex ∨ X.s₀.heap.objs.size ≤ b) ∧ b ≠ X.env.locals ∧ (∀ x c, X.env.cells.lookup x = some c → c ≠ b) ∧ ∀ p ∈ X.pn ++ pins, p.1 ≠ b) :
    Inv X pins σ H' { s with heap := h', gens := g', drawn := d', toks := t' } := by
  obtain ⟨m, ⟨o, es, ep, ho, r⟩, _⟩ := id I.loc
  obtain ⟨sl, hL⟩ := u.any ho I.free fun z => (hch _ z).2.1 rfl
  exact I.step (ch := ch) hch (fun b o hL hb hc e n => u.keep b o e n (fun z => (List.mem_cons.mp (I.stkSub b z)).elim hL hb) hc) (fun b o _ _ hc e n => u.any e n hc) (fun b o hc e n => u.free b o e n hc) (fun b o hc e => u.there b o e hc) u.tups u.frzs u.tbls (fun m' hm => by
    obtain ⟨o', es', ep', ho', r'⟩ := hm
    rw [ho] at ho'; cases ho'
    exact ⟨_, es', ep', hL, r'⟩) hok hg
theorem Inv.turned {t' : Nat} {it : Addr} (I : Inv X pins σ H s) (k : ∀ b o, b ≠ it → s.heap.get? b = some o → h'.get? b = some o) (hn : H it = none) (hL : it ≠ X.env.locals)
    (h1 : it ∈ X.ex ∨ X.s₀.heap.objs.size ≤ it) (h2 : ∀ x c, X.env.cells.lookup x = some c → c ≠ it) (h3 : ∀ p ∈ X.pn ++ pins, p.1 ≠ it) : Inv X pins σ H { s with heap := h', toks := t' } := by
  have nit : ∀ b u, H b = some u → b ≠ it := fun b u e z => by rw [z, hn] at e; cases e
  refine I.step (g' := s.gens) (d' := s.drawn) (ch := [it]) (fun b hb => ?_) (fun b o _ _ hc e _ => k b o (fun z => hc (by simp [z])) e) (fun b o _ _ hc e _ => ⟨o.slots, k b o (fun z => hc (by simp [z])) e⟩) (fun _ _ _ _ n => n)
    (fun b o hc e => ⟨o, k b o (fun z => hc (by simp [z])) e⟩) (fun _ _ e => e) (fun _ _ _ e => e) (fun b ps e => ⟨#[], by rw [e]; simp⟩) (fun m hm => ?_) (fun b u e => ?_) I.bare
  · have e : b = it := by simpa using hb
    subst e
    exact ⟨h1, hL, h2, h3⟩
  · obtain ⟨o, es, ep, ho, r⟩ := hm
    exact ⟨o, es, ep, k _ o (Ne.symm hL) ho, r⟩
  · refine (I.hok b u e).stay (fun c v hc q => k c v ?_ q) (fun _ q => q) fun _ _ q => q
    rcases hc with z | z
    · rw [z]; exact nit b u e
    · exact nit c _ z
theorem Inv.tok (I : Inv X pins σ H s) (t : Nat) : Inv X pins σ H { s with toks := t } := I.un (h' := s.heap) (t' := t) Un.refl I.hok
theorem Inv.kept {t' : Nat} (I : Inv X pins σ H s) (k : ∀ b u, s.heap.get? b = some u → h'.get? b = some u) : Inv X pins σ H { s with heap := h', toks := t' } := I.un (Un.kept k) (I.hok.kept k)
theorem Inv.laid {a : Addr} {o : HO} {t' : Nat} (I : Inv X pins σ H s) (k : ∀ b u, s.heap.get? b = some u → h'.get? b = some u) (hp : s.heap.objs.size ≤ a) (new : ObjOk X.prog X.w (upd H a o) h' a o) :
    Inv X pins σ (upd H a o) { s with heap := h', toks := t' } := I.un (Un.laid k hp (I.hok.fresh hp)) (I.hok.laid k hp new)
theorem Inv.write {x e : Addr} {o : HO} {t' : Nat} (I : Inv X pins σ H s) (mu : Mut (H x)) (he : e = x ∨ H e = some (.own x)) (k : ∀ b u, b ≠ e → s.heap.get? b = some u → h'.get? b = some u) (heo : ∃ u, h'.get? e = some u)
    (new : ObjOk X.prog X.w (upd H x o) h' x o) : Inv X pins σ (upd H x o) { s with heap := h', toks := t' } := I.un (Un.write mu he k heo) (I.hok.write mu he k heo new)
theorem Inv.pins_of {pins' : List (Addr × Obj)} (I : Inv X pins σ H s) (h : ∀ p ∈ pins', s.heap.get? p.1 = some p.2 ∧ H p.1 = none ∧ p.1 ≠ X.env.locals ∧ p.1 ∉ X.fs ∧ ∀ v, p.2.data ≠ .cell v) : Inv X pins' σ H s :=
  ⟨I.ok, I.os, I.bare, I.base, I.loc, I.cell, I.free, I.freeC, fun p hp => (List.mem_append.mp hp).elim (fun z => I.pin p (List.mem_append_left _ z)) (h p), I.hok, I.len⟩
theorem nodup_ix {N : List Str} (hN : N.Nodup) {i j : Nat} {x : Str} (a : N[i]? = some x) (b : N[j]? = some x) : i = j := by
  obtain ⟨h1, e1⟩ := List.getElem?_eq_some_iff.mp a
  obtain ⟨h2, e2⟩ := List.getElem?_eq_some_iff.mp b
  exact (List.getElem_inj hN).mp (e1.trans e2.symm)
theorem store_ok2 {M : Model} {A : Around} {E : Value → Shared → Prop} {i : Nat} {x : Str} {v : V} {u : Value} {Q : Unit → Shared → Prop} (I : Inv X pins σ H s) (hN : X.N.Nodup) (hi : X.N[i]? = some x) (hx : Loc X.env.scope x) (r : RelV v u)
    (h : ∀ s', Inv X pins (σ.set i (some v)) H s' → (∃ a, Heap.SameBut a s.heap s'.heap ∧ (a = X.env.locals ∨ X.env.cells.lookup x = some a)) → Q () s') (hf : X.fn x = true ∨ X.env.scope.names.lookup x = some .local := by first | exact .inl rfl | exact .inr rfl | assumption) : wpAny M A (storeName X.env x u) Q E s := by
  obtain ⟨m, hn, hl⟩ := id I.loc
  have hcls : (X.env.scope.kind == .class || (X.env.scope.kind == .module && X.env.locals != X.env.globals)) = false := by rw [I.ok.kind]; rfl
  have hiσ : i < σ.length := by rw [I.len]; exact (List.getElem?_eq_some_iff.mp hi).1
  have cne := I.cne
  have tracked : ∀ {a : Addr} {h' : Heap}, (∃ o, s.heap.get? a = some o ∧ H a = none) → Heap.SameBut a s.heap h' → HOk X.prog X.w H h' := fun {a h'} ha hs b ob e => by
    obtain ⟨_, _, hfree⟩ := ha
    refine (I.hok b ob e).stay (fun c w' hc q => (hs.2 c ?_).trans q) (fun _ q => q) fun _ _ q => q
    rintro rfl
    rcases hc with rfl | hc
    · rw [hfree] at e; cases e
    · rw [hfree] at hc; cases hc
  rcases hx with hk | hk
  · refine wpAny_storeName_local hk hn (fun h' hn' hs => ?_) hcls
    obtain ⟨oL, _, _, hoL, _⟩ := id hn
    refine h _ ⟨I.ok, I.os, I.bare, ⟨fun b o e n hb hx => ?_, fun b o e n hb hx => ?_, I.base.free, fun b o e hx => ?_, I.base.tups, I.base.frzs, I.base.tbls⟩, ⟨_, hn', fun j y v' e1 e2 e3 => ?_⟩, fun y c e => ?_, I.free, I.freeC, fun p hp => ?_, tracked ⟨oL, hoL, I.free⟩ hs, by simpa using I.len⟩ ⟨_, hs, .inl rfl⟩
    · exact (hs.2 b (Nat.ne_of_lt (Nat.lt_of_lt_of_le (Heap.lt_size e) I.ok.above))).trans (I.base.keep b o e n hb hx)
    · obtain ⟨sl, e1⟩ := I.base.slot b o e n hb hx
      exact ⟨sl, (hs.2 b (Nat.ne_of_lt (Nat.lt_of_lt_of_le (Heap.lt_size e) I.ok.above))).trans e1⟩
    · obtain ⟨o', e1⟩ := I.base.there b o e hx
      exact ⟨o', (hs.2 b (Nat.ne_of_lt (Nat.lt_of_lt_of_le (Heap.lt_size e) I.ok.above))).trans e1⟩
    · by_cases hj : j = i
      · subst hj
        rw [hi] at e1; cases e1
        rw [List.getElem?_set_self hiσ] at e2
        cases e2
        exact ⟨u, r, .inl ⟨hk, by simp⟩⟩
      · rw [List.getElem?_set_ne (Ne.symm hj)] at e2
        obtain ⟨u', r', q⟩ := hl j y v' e1 e2 e3
        refine ⟨u', r', ?_⟩
        rcases q with ⟨k, e⟩ | ⟨k, c, e, z⟩
        · refine .inl ⟨k, ?_⟩
          have : y ≠ x := fun e => hj (nodup_ix hN e1 (e ▸ hi))
          simp [this, e]
        · exact .inr ⟨k, c, e, z.sameBut hs (cne y c e)⟩
    · obtain ⟨w', z⟩ := I.cell y c e
      exact ⟨w', z.sameBut hs (cne y c e)⟩
    · obtain ⟨e, n, ne, nf, d⟩ := I.pin p hp
      exact ⟨(hs.2 p.1 ne).trans e, n, ne, nf, d⟩
  · have hfn : X.fn x = true := by
      rcases hf with z | z
      · exact z
      · rw [z] at hk; cases hk
    obtain ⟨c, hc⟩ := I.ok.has x (.inl hk)
    obtain ⟨w', z⟩ := I.cell x c hc
    refine wpAny_storeName_cell I.ok.kind hk hc z (fun h' hc' hs => ?_)
    obtain ⟨oc, hoc, hocd⟩ := id z
    refine h { s with heap := h' } ⟨I.ok, I.os, I.bare, ⟨fun b o e n hb hx => ?_, fun b o e n hb hx => ?_, I.base.free, fun b o e hx => ?_, I.base.tups, I.base.frzs, I.base.tbls⟩, ⟨m, hn.sameBut hs (Ne.symm (cne x c hc)), fun j y v' e1 e2 e3 => ?_⟩, fun y c' e => ?_, I.free, I.freeC, fun p hp => ?_, tracked ⟨oc, hoc, I.freeC x c hc⟩ hs, by simpa using I.len⟩ ⟨c, hs, .inr hc⟩
    · exact (hs.2 b (Nat.ne_of_lt (Nat.lt_of_lt_of_le (Heap.lt_size e) (I.ok.cab x c hfn hc)))).trans (I.base.keep b o e n hb hx)
    · obtain ⟨sl, e1⟩ := I.base.slot b o e n hb hx
      exact ⟨sl, (hs.2 b (Nat.ne_of_lt (Nat.lt_of_lt_of_le (Heap.lt_size e) (I.ok.cab x c hfn hc)))).trans e1⟩
    · obtain ⟨o', e1⟩ := I.base.there b o e hx
      exact ⟨o', (hs.2 b (Nat.ne_of_lt (Nat.lt_of_lt_of_le (Heap.lt_size e) (I.ok.cab x c hfn hc)))).trans e1⟩
    · by_cases hj : j = i
      · subst hj
        rw [hi] at e1; cases e1
        rw [List.getElem?_set_self hiσ] at e2
        cases e2
        exact ⟨u, r, .inr ⟨.inl hk, c, hc, hc'⟩⟩
      · rw [List.getElem?_set_ne (Ne.symm hj)] at e2
        obtain ⟨u', r', q⟩ := hl j y v' e1 e2 e3
        refine ⟨u', r', ?_⟩
        rcases q with q | ⟨k, c', e, z'⟩
        · exact .inl q
        · refine .inr ⟨k, c', e, z'.sameBut hs ?_⟩
          rintro rfl
          exact hj (nodup_ix hN e1 (I.ok.inj _ _ _ e hc ▸ hi))
    · by_cases hcc : c' = c
      · subst hcc; exact ⟨_, hc'⟩
      · obtain ⟨w2, z2⟩ := I.cell y c' e
        exact ⟨w2, z2.sameBut hs hcc⟩
    · obtain ⟨e, n, ne, nf, d⟩ := I.pin p hp
      refine ⟨(hs.2 p.1 ?_).trans e, n, ne, nf, d⟩
      intro q
      rw [q, hoc] at e
      have q' : oc = p.2 := Option.some.inj e
      exact d w' (by rw [← q']; exact hocd)
theorem store_ok {M : Model} {A : Around} {E : Value → Shared → Prop} {i : Nat} {x : Str} {v : V} {u : Value} {Q : Unit → Shared → Prop} (I : Inv X pins σ H s) (hN : X.N.Nodup) (hi : X.N[i]? = some x) (hx : Loc X.env.scope x) (r : RelV v u)
    (h : ∀ s', Inv X pins (σ.set i (some v)) H s' → Q () s') (hf : X.fn x = true ∨ X.env.scope.names.lookup x = some .local := by first | exact .inl rfl | exact .inr rfl | assumption) : wpAny M A (storeName X.env x u) Q E s :=
  store_ok2 I hN hi hx r (fun s' I' _ => h s' I') hf
end
abbrev XK := Value → Option Addr → Hp → Prop
abbrev St := List (Option V)
abbrev VK := V → Hp → Prop
abbrev TE := St → Hp → VK → Prop
abbrev TT := St → Hp → (Bool → Hp → Prop) → Prop
abbrev TA := St → Hp → (List V → Hp → Prop) → Prop
structure Ends where
  nx : St → Hp → Prop
  rt : VK
  bk : St → Hp → Prop := fun _ _ => False
  ct : St → Hp → Prop := fun _ _ => False
abbrev TS := Ends → St → Hp → Prop
def EP (X : Cx) (pins : List (Addr × Obj)) (σ : St) (Q : VK) (u : Value) (s' : Shared) : Prop := ∃ v H', Inv X pins σ H' s' ∧ RelV v u ∧ Q v H'
def TP (X : Cx) (pins : List (Addr × Obj)) (σ : St) (Q : Bool → Hp → Prop) (b : Bool) (s' : Shared) : Prop := ∃ H', Inv X pins σ H' s' ∧ Q b H'
def AP (X : Cx) (pins : List (Addr × Obj)) (σ : St) (Q : List V → Hp → Prop) (us : List Value) (s' : Shared) : Prop := ∃ vs H', Inv X pins σ H' s' ∧ Vals vs us ∧ Q vs H'
def SP (X : Cx) (pins : List (Addr × Obj)) (D : Ends) (f : Flow) (s' : Shared) : Prop :=
  match f with
  | .next => ∃ σ' H', Inv X pins σ' H' s' ∧ D.nx σ' H'
  | .brk => ∃ σ' H', Inv X pins σ' H' s' ∧ D.bk σ' H'
  | .cont => ∃ σ' H', Inv X pins σ' H' s' ∧ D.ct σ' H'
  | .ret u => ∃ v σ' H', Inv X pins σ' H' s' ∧ RelV v u ∧ D.rt v H'
def PE (X : Cx) (e : Expr) (t : TE) : Prop :=
  ∀ (pins : List (Addr × Obj)) (s : Shared) (σ : St) (H : Hp) (Q : VK), Inv X pins σ H s → t σ H Q → wpAny (model X.prog X.w) X.A (eval e X.env) (EP X pins σ Q) X.xe s
def PT (X : Cx) (e : Expr) (t : TT) : Prop :=
  ∀ (pins : List (Addr × Obj)) (s : Shared) (σ : St) (H : Hp) (Q : Bool → Hp → Prop), Inv X pins σ H s → t σ H Q → wpAny (model X.prog X.w) X.A (isTrue e X.env (eval e X.env)) (TP X pins σ Q) X.xe s
def PW (X : Cx) (e : Expr) (t : TT) : Prop :=
  ∀ (whole : Sem Value) (pins : List (Addr × Obj)) (s : Shared) (σ : St) (H : Hp) (Q : Bool → Hp → Prop), Inv X pins σ H s → t σ H Q → wpAny (model X.prog X.w) X.A (isTrue e X.env whole) (TP X pins σ Q) X.xe s
theorem PW.pt {X : Cx} {e : Expr} {t : TT} (h : PW X e t) : PT X e t := h _
def PA (X : Cx) (es : List Expr) (t : TA) : Prop :=
  ∀ (pos : Pos) (pins : List (Addr × Obj)) (s : Shared) (σ : St) (H : Hp) (Q : List V → Hp → Prop), Inv X pins σ H s → t σ H Q → wpAny (model X.prog X.w) X.A (spliced (backTo pos (starEach es X.env))) (AP X pins σ Q) X.xe s
def PS (X : Cx) (st : Stmt) (t : TS) : Prop :=
  ∀ (pins : List (Addr × Obj)) (s : Shared) (σ : St) (H : Hp) (D : Ends), Inv X pins σ H s → t D σ H → wpAny (model X.prog X.w) X.A (exec st X.env) (SP X pins D) X.xe s
def PSs (X : Cx) (st : List Stmt) (t : TS) : Prop :=
  ∀ (pins : List (Addr × Obj)) (s : Shared) (σ : St) (H : Hp) (D : Ends), Inv X pins σ H s → t D σ H → wpAny (model X.prog X.w) X.A (execs st X.env) (SP X pins D) X.xe s
theorem thn {α : Type} {t : Sem α} {Q Q' : α → Shared → Prop} {M : Model} {A : Around} {E : Value → Shared → Prop} {s : Shared} (h : wpAny M A t Q E s) (hQ : ∀ a s, Q a s → Q' a s) : wpAny M A t Q' E s := wpAny_mono h hQ fun _ _ x => x
end L2
namespace L2
open PySem PySem.Spec PyProof.Rows
section
variable {X : Cx}
def tVar (i : Nat) : TE := fun σ H Q => ∃ v, σ[i]? = some (some v) ∧ Q v H
def tC (v : V) : TE := fun _ H Q => Q v H
theorem pe_var {i : Nat} {x : Str} {pos : Pos} (hN : X.N[i]? = some x) (hv : Vis X.env.scope x) (hd : (x == ("__debug__" : Str)) = false := by decide) (hcd : (x == ("__classdict__" : Str)) = false := by decide) : PE X (.Name x pos) (tVar i) := by
  intro pins s σ H Q I h
  obtain ⟨v, e, h⟩ := h
  obtain ⟨m, hn, hl⟩ := I.loc
  obtain ⟨u, r, l⟩ := hl i x v hN e hv
  have fin : EP X pins σ Q u s := ⟨v, H, I, r, h⟩
  rcases l with ⟨hk, hm⟩ | ⟨hk, c, hc, hcell⟩
  · exact wpAny_Name (wpAny_loadName_local I.ok.kind hk hn hm fin) hd
  · rcases hk with hk | hk
    · exact wpAny_Name (wpAny_loadName_cell I.ok.kind hk hc hcell fin) hd
    · exact wpAny_Name (wpAny_loadName_free I.ok.kind hk hc hcell fin hcd) hd
theorem pe_int {i j pos} : PE X (.Constant (.int i) j pos) (tC (.int i)) := fun _ _ _ H _ I h => wpAny_Constant_int ⟨.int i, H, I.tok _, ⟨_, rfl⟩, h⟩
theorem pe_bl {b j pos} : PE X (.Constant (.bool b) j pos) (tC (.bl b)) := fun _ _ _ H _ I h => Constant_bool ⟨.bl b, H, I, rfl, h⟩
def Gl (X : Cx) (x : Str) : Prop := X.env.kindOf x = some .globalImplicit
theorem ld_glob {E : Value → Shared → Prop} {pins : List (Addr × Obj)} {s : Shared} {σ : St} {H : Hp} {x : Str} {u : Value} {pos : Pos} {Q : Value → Shared → Prop} (I : Inv X pins σ H s) (hg : Gl X x) (hm : X.mg x = some u) (h : Q u s)
    (hd : (x == ("__debug__" : Str)) = false := by decide) : wpAny (model X.prog X.w) X.A (eval (.Name x pos) X.env) Q E s :=
  Calls.Name_function_global I.ok.kind hg (Calls.loadGlobal_global (by rw [I.ok.glob]; exact I.mod.glob.keeps I.bk) hm h) hd
theorem ld_blt {E : Value → Shared → Prop} {pins : List (Addr × Obj)} {s : Shared} {σ : St} {H : Hp} {x : Str} {u : Value} {pos : Pos} {Q : Value → Shared → Prop} (I : Inv X pins σ H s) (hg : Gl X x) (hm : X.mg x = none) (hv : bootBuiltins x = some u) (h : Q u s)
    (hn : x ≠ "__name__" := by decide) (hd : (x == ("__debug__" : Str)) = false := by decide) : wpAny (model X.prog X.w) X.A (eval (.Name x pos) X.env) Q E s := by
  obtain ⟨mb, h1, h2⟩ := I.mod.blt
  exact Calls.Name_function_global I.ok.kind hg (Calls.loadGlobal_builtin (by rw [I.ok.glob]; exact I.mod.glob.keeps I.bk) hm (by rw [I.ok.blt]; exact h1.keeps I.bk) ((h2 x hn).trans hv) h) hd
theorem pe_glob {x : Str} {v : V} {u : Value} {pos : Pos} (hg : Gl X x) (hm : X.mg x = some u) (r : RelV v u) (hd : (x == ("__debug__" : Str)) = false := by decide) : PE X (.Name x pos) (tC v) :=
  fun _ _ _ H _ I h => ld_glob I hg hm ⟨v, H, I, r, h⟩ hd
theorem pe_bltn {x : Str} {v : V} {u : Value} {pos : Pos} (hg : Gl X x) (hm : X.mg x = none) (hv : bootBuiltins x = some u) (r : RelV v u) (hn : x ≠ "__name__" := by decide) (hd : (x == ("__debug__" : Str)) = false := by decide) : PE X (.Name x pos) (tC v) :=
  fun _ _ _ H _ I h => ld_blt I hg hm hv ⟨v, H, I, r, h⟩ hn hd
variable {a b : Expr} {ta tb : TE} {pos : Pos}
def tB (t : TE) : TT := fun σ H Q => t σ H fun x H1 => ∃ c, x = .bl c ∧ Q c H1
theorem pt_val {e : Expr} {t : TE} (h : PE X e t) (he : ∀ whole, isTrue e X.env whole = (do let v ← whole; standAt e.pos; holding [v] (truthy v)) := by intro _; rfl) : PT X e (tB t) := by
  intro pins s σ H Q I hw
  refine isTrue_plain (thn (h pins s σ H _ I hw) fun v s1 ⟨x, H1, I1, r1, q1⟩ => ?_) (he _)
  obtain ⟨d, rfl, q⟩ := q1
  cases r1
  exact wpAny_truthy_bool ⟨H1, I1, q⟩
variable {tA tB' : TT} {rest : List Expr}
def tOr (t u : TT) : TT := fun σ H Q => t σ H fun c H1 => if c = true then Q true H1 else u σ H1 Q
def tNot (t : TT) : TT := fun σ H Q => t σ H fun c H1 => Q (!c) H1
theorem pw_or1 (ha : PT X a tA) : PW X (.BoolOp .Or [a] pos) tA := by
  intro wh pins s σ H Q I h
  refine isTrue_or (thn (ha pins s σ H Q I h) fun c s1 e => ?_)
  cases c with
  | false => exact isTrue_or_nil e
  | true => exact e
theorem pw_or (ha : PT X a tA) (hb : PW X (.BoolOp .Or (b :: rest) pos) tB') : PW X (.BoolOp .Or (a :: b :: rest) pos) (tOr tA tB') := by
  intro wh pins s σ H Q I h
  refine isTrue_or (thn (ha pins s σ H _ I h) fun c s1 ⟨H1, I1, q1⟩ => ?_)
  cases c with
  | true => exact ⟨H1, I1, q1⟩
  | false => exact hb wh pins s1 σ H1 Q I1 q1
theorem pt_not (ha : PT X a tA) : PT X (.UnaryOp .Not a pos) (tNot tA) := by
  intro pins s σ H Q I h
  exact isTrue_not (ha pins s σ H (fun c H1 => Q (!c) H1) I h)
def tAndV (ta tb : TE) : TE := fun σ H Q => ta σ H fun x H1 => ∃ c, x = .bl c ∧ if c = true then tb σ H1 Q else Q (.bl false) H1
def tNotV (ta : TE) : TE := fun σ H Q => ta σ H fun x H1 => ∃ c, x = .bl c ∧ Q (.bl (!c)) H1
theorem pe_one {op} {t : TE} (h : PE X a t) : PE X (.BoolOp op [a] pos) t := fun pins s σ H Q I hw => BoolOp_one (h pins s σ H Q I hw)
theorem pe_and (ha : PE X a ta) (hb : PE X (.BoolOp .And (b :: rest) pos) tb) : PE X (.BoolOp .And (a :: b :: rest) pos) (tAndV ta tb) := by
  intro pins s σ H Q I h
  refine BoolOp_and (thn (ha pins s σ H _ I h) fun v s1 ⟨x, H1, I1, r1, q1⟩ => ?_)
  obtain ⟨c, rfl, q1⟩ := q1
  cases r1
  refine wpAny_truthy_bool ?_
  cases c with
  | true => exact hb pins s1 σ H1 Q I1 q1
  | false => exact ⟨.bl false, H1, I1, rfl, q1⟩
theorem pe_not (ha : PE X a ta) : PE X (.UnaryOp .Not a pos) (tNotV ta) := by
  intro pins s σ H Q I h
  refine UnaryOp_ (thn (ha pins s σ H _ I h) fun v s1 ⟨x, H1, I1, r1, q1⟩ => ?_)
  obtain ⟨c, rfl, q1⟩ := q1
  cases r1
  exact not_of (wpAny_truthy_bool ⟨.bl (!c), H1, I1, rfl, q1⟩)
end
end L2
namespace L2
open PySem PySem.Spec PyProof.Rows
def SqL (K : PySem.W.Frag) (H : Hp) (a : Addr) (xs : List V) : Prop :=
  Rd H a (.lst xs) ∨
    ∃ (o : Obj) (its : Array Value) (n : Nat), K.lookup a = some o ∧ o.cls = .type "list" ∧ o.dict = none ∧ o.data = .seq its n ∧ its.size ≤ sizeLine ∧ Vals xs its.toList
def SqT (K : PySem.W.Frag) (H : Hp) (a : Addr) (xs : List V) : Prop :=
  Rd H a (.tup xs) ∨
    ∃ (o : Obj) (its : Array Value) (n : Nat), K.lookup a = some o ∧ o.cls = .type "tuple" ∧ o.data = .seq its n ∧ its.size ≤ sizeLine ∧ Vals xs its.toList
def absV : Value → Option V
  | .none => some .non
  | .bool b => some (.bl b)
  | .int i _ => some (.int i)
  | .str x _ => some (.str x)
  | .bytes b _ => some (.byt b)
  | .float b _ => some (.flt b)
  | .ref a => some (.ref a)
  | .type n => some (.ty n)
  | _ => none
theorem RelV.abs {x : V} {u : Value} (r : RelV x u) : absV u = some x := by
  cases x with
  | non => cases r; rfl
  | bl _ => cases r; rfl
  | int _ => obtain ⟨t, rfl⟩ := r; rfl
  | str _ => obtain ⟨t, rfl⟩ := r; rfl
  | byt _ => obtain ⟨t, rfl⟩ := r; rfl
  | flt _ => obtain ⟨t, rfl⟩ := r; rfl
  | ref _ => cases r; rfl
  | ty _ => cases r; rfl
theorem RelV.inj {x y : V} {u : Value} (r : RelV x u) (q : RelV y u) : x = y := Option.some.inj (r.abs.symm.trans q.abs)
theorem Vals.inj : ∀ {xs ys : List V} {us : List Value}, Vals xs us → Vals ys us → xs = ys
  | _, _, _, .nil, .nil => rfl
  | _, _, _, .cons r t, .cons r' t' => by rw [r.inj r', Vals.inj t t']
section
variable {X : Cx} {pins : List (Addr × Obj)} {σ : St} {H : Hp} {s : Shared} {a : Addr} {xs ys : List V}
theorem SqL.of {K : PySem.W.Frag} (h : H a = some (.lst xs)) : SqL K H a xs := .inl (.inl h)
theorem SqT.of {K : PySem.W.Frag} (h : H a = some (.tup xs)) : SqT K H a xs := .inl (.inl h)
theorem Inv.list (I : Inv X pins σ H s) (h : SqL X.K H a xs) : ∃ its : List Value, Vals xs its ∧ PlainL s.heap a its.toArray ∧ xs.length ≤ sizeLine := by
  rcases h with h | ⟨o, its, n, hk, hc, hd, hs, hz, r⟩
  · obtain ⟨z, its, n, r, e⟩ := h.ok I.hok
    exact ⟨its, r, ⟨_, n, e, rfl, rfl, rfl⟩, z⟩
  · refine ⟨its.toList, r, ⟨o, n, I.kIn a o hk, hc, hd, by simpa using hs⟩, ?_⟩
    have e := r.length
    simp only [Array.length_toList] at e
    omega
theorem Inv.tuple (I : Inv X pins σ H s) (h : SqT X.K H a xs) : ∃ its : List Value, Vals xs its ∧ IsTup s.heap a its.toArray ∧ xs.length ≤ sizeLine := by
  rcases h with h | ⟨o, its, n, hk, hc, hs, hz, r⟩
  · obtain ⟨z, its, r, p⟩ := h.ok I.hok
    exact ⟨its, r, p, z⟩
  · refine ⟨its.toList, r, ⟨o, I.kIn a o hk, hc, n, by simpa using hs⟩, ?_⟩
    have e := r.length
    simp only [Array.length_toList] at e
    omega
theorem Inv.list_inj (I : Inv X pins σ H s) (h : SqL X.K H a xs) (h' : SqL X.K H a ys) : xs = ys := by
  obtain ⟨its, r, ⟨o, n, e, _, _, d⟩, _⟩ := I.list h
  obtain ⟨its', r', ⟨o', n', e', _, _, d'⟩, _⟩ := I.list h'
  rw [e] at e'; cases e'
  rw [d] at d'
  injection d' with d1 _
  have : its = its' := by simpa using congrArg Array.toList d1
  subst this
  exact r.inj r'
end
abbrev Cx.wish (X : Cx) (E : Value → Shared → Prop) : Cx := { X with xe := E }
abbrev Cx.nox (X : Cx) : Cx := X.wish fun _ _ => False
theorem Cx.Ok.wish {X : Cx} (ok : X.Ok) (E : Value → Shared → Prop) : (X.wish E).Ok :=
  ⟨ok.mod, ok.kind, ok.glob, ok.blt, ok.above, ok.inj, ok.has, ok.cab, ok.hd, ok.frames, ok.stk, ok.exf, ok.bs, ok.bsz, ok.noex, ok.exfs, ok.funs, ok.frf⟩
theorem Cx.Ok.unwish {X : Cx} {E : Value → Shared → Prop} (ok : (X.wish E).Ok) : X.Ok :=
  ⟨ok.mod, ok.kind, ok.glob, ok.blt, ok.above, ok.inj, ok.has, ok.cab, ok.hd, ok.frames, ok.stk, ok.exf, ok.bs, ok.bsz, ok.noex, ok.exfs, ok.funs, ok.frf⟩
section
variable {X : Cx} {pins : List (Addr × Obj)} {σ : St} {H : Hp} {s : Shared} {E : Value → Shared → Prop}
theorem Inv.wish (I : Inv X pins σ H s) (E : Value → Shared → Prop) : Inv (X.wish E) pins σ H s := ⟨I.ok.wish E, I.os, I.bare, I.base, I.loc, I.cell, I.free, I.freeC, I.pin, I.hok, I.len⟩
theorem Inv.unwish (I : Inv (X.wish E) pins σ H s) : Inv X pins σ H s := ⟨I.ok.unwish, I.os, I.bare, I.base, I.loc, I.cell, I.free, I.freeC, I.pin, I.hok, I.len⟩
theorem SP.unwish {D : Ends} {f : Flow} {s' : Shared} (h : SP (X.wish E) pins D f s') : SP X pins D f s' := by
  cases f with
  | next => obtain ⟨σ', H', I, q⟩ := h; exact ⟨σ', H', I.unwish, q⟩
  | brk => obtain ⟨σ', H', I, q⟩ := h; exact ⟨σ', H', I.unwish, q⟩
  | cont => obtain ⟨σ', H', I, q⟩ := h; exact ⟨σ', H', I.unwish, q⟩
  | ret u => obtain ⟨v, σ', H', I, r, q⟩ := h; exact ⟨v, σ', H', I.unwish, r, q⟩
theorem PSs.nox {st : List Stmt} {t : TS} (h : PSs X.nox st t) : PSs X st t := fun pins s σ H D I hw =>
  wpAny_mono (h pins s σ H D (I.wish _) hw) (fun _ _ q => q.unwish) fun _ _ z => False.elim z
end
section
variable {X : Cx} {st : Stmt} {rest : List Stmt} {t u : TS} {e : Expr} {te : TE} {pos : Pos}
def tNext : TS := fun D σ H => D.nx σ H
def tSeq (t u : TS) : TS := fun D σ H => t { D with nx := u D } σ H
theorem pss_nil : PSs X [] tNext := fun _ _ σ H _ I h => wpAny_execs_nil ⟨σ, H, I, h⟩
theorem pss_cons (h1 : PS X st t) (h2 : PSs X rest u) : PSs X (st :: rest) (tSeq t u) := by
  intro pins s σ H D I h
  refine wpAny_execs_cons (thn (h1 pins s σ H { D with nx := u D } I h) fun f s1 q => ?_)
  cases f with
  | next =>
    obtain ⟨σ', H', I', q⟩ := q
    exact h2 pins s1 σ' H' D I' q
  | ret v => exact q
  | brk => exact q
  | cont => exact q
theorem pss_one (h1 : PS X st t) : PSs X [st] t := by
  intro pins s σ H D I h
  refine wpAny_execs_cons (thn (h1 pins s σ H D I h) fun f s1 q => ?_)
  cases f with
  | next => exact wpAny_execs_nil q
  | ret v => exact q
  | brk => exact q
  | cont => exact q
def tRet (te : TE) : TS := fun D σ H => te σ H D.rt
theorem ps_ret (he : PE X e te) : PS X (.Return (some e) pos) (tRet te) := by
  intro pins s σ H D I h
  exact wpAny_Return_some (thn (he pins s σ H _ I h) fun v s1 ⟨x, H1, I1, r1, q1⟩ => ⟨x, σ, H1, I1, r1, q1⟩)
def tIfS (c : TT) (t u : TS) : TS := fun D σ H => c σ H fun b H1 => if b = true then t D σ H1 else u D σ H1
theorem ps_if {c : Expr} {a b : List Stmt} {tc : TT} (hc : PT X c tc) (ha : PSs X a t) (hb : PSs X b u) : PS X (.If c a b pos) (tIfS tc t u) := by
  intro pins s σ H D I h
  refine wpAny_If (thn (hc pins s σ H _ I h) fun d s1 ⟨H1, I1, q1⟩ => ?_)
  cases d with
  | true => exact ha pins s1 σ H1 D I1 q1
  | false => exact hb pins s1 σ H1 D I1 q1
def tNever : TS := fun _ _ _ => False
theorem ps_never : PS X st tNever := fun _ _ _ _ _ _ h => h.elim
theorem pss_never {sts : List Stmt} : PSs X sts tNever := fun _ _ _ _ _ _ h => h.elim
end
abbrev TG := V → St → Hp → (St → Hp → Prop) → Prop
abbrev TGs := List V → St → Hp → (St → Hp → Prop) → Prop
def PG (X : Cx) (target : Expr) (t : TG) : Prop :=
  ∀ (pins : List (Addr × Obj)) (s : Shared) (σ : St) (H : Hp) (v : V) (u : Value) (Q : St → Hp → Prop), Inv X pins σ H s → RelV v u → t v σ H Q →
    wpAny (model X.prog X.w) X.A (assign target X.env u) (fun _ s' => ∃ σ' H', Inv X pins σ' H' s' ∧ Q σ' H') X.xe s
def PGs (X : Cx) (ts : List Expr) (t : TGs) : Prop :=
  ∀ (pins : List (Addr × Obj)) (s : Shared) (σ : St) (H : Hp) (vs : List V) (us : List Value) (Q : St → Hp → Prop), Inv X pins σ H s → Vals vs us → t vs σ H Q →
    wpAny (model X.prog X.w) X.A (assignInOrder ((assignEach ts X.env).map (·.2)) us) (fun _ s' => ∃ σ' H', Inv X pins σ' H' s' ∧ Q σ' H') X.xe s
abbrev TSet := V → V → V → Hp → (Hp → Prop) → Prop
def PSet (X : Cx) (t : TSet) : Prop :=
  ∀ (pins : List (Addr × Obj)) (s : Shared) (σ : St) (H : Hp) (o i v : V) (ov iv u : Value) (Q : Hp → Prop), Inv X pins σ H s → RelV o ov → RelV i iv → RelV v u → t o i v H Q →
    wpAny (model X.prog X.w) X.A (setItem ov iv u) (fun _ s' => ∃ H', Inv X pins σ H' s' ∧ Q H') X.xe s
section
variable {X : Cx} {pos : Pos}
def gName (i : Nat) : TG := fun v σ H Q => Q (σ.set i (some v)) H
theorem pg_name {i : Nat} {x : Str} (hN : X.N.Nodup) (hi : X.N[i]? = some x) (hx : Loc X.env.scope x) (hf : X.fn x = true ∨ X.env.scope.names.lookup x = some .local := by first | exact .inl rfl | exact .inr rfl | assumption) : PG X (.Name x pos) (gName i) := by
  intro pins s σ H v u Q I r h
  exact wpAny_assign_Name (store_ok I hN hi hx r (fun s' I' => ⟨_, H, I', h⟩) hf)
def gNil : TGs := fun vs σ H Q => vs = [] ∧ Q σ H
def gCons (t : TG) (u : TGs) : TGs := fun vs σ H Q => ∃ v r, vs = v :: r ∧ t v σ H fun σ' H' => u r σ' H' Q
theorem pgs_nil : PGs X [] gNil := by
  intro pins s σ H vs us Q I r h
  obtain ⟨e, h⟩ := h
  subst e
  cases r
  exact assignInOrder_nil ⟨σ, H, I, h⟩
theorem pgs_cons {e : Expr} {es : List Expr} {t : TG} {u : TGs} (h1 : PG X e t) (h2 : PGs X es u)
    (hs : (assignEach (e :: es) X.env).map (·.2) = assign e X.env :: (assignEach es X.env).map (·.2) := by rfl) : PGs X (e :: es) (gCons t u) := by
  intro pins s σ H vs us Q I r h
  obtain ⟨v, vr, e1, h⟩ := h
  subst e1
  cases r with
  | cons r rr =>
    rw [hs]
    refine assignInOrder_cons (thn (h1 pins s σ H _ _ _ I r h) fun _ s1 ⟨σ1, H1, I1, q1⟩ => ?_)
    exact h2 pins s1 σ1 H1 _ _ Q I1 rr q1
def gTup (K : PySem.W.Frag) (n : Nat) (t : TGs) : TG := fun v σ H Q => ∃ a xs, v = .ref a ∧ SqT K H a xs ∧ xs.length = n ∧ t xs σ H Q
theorem pg_tup {es : List Expr} {k : Nat} {t : TGs} {n : Nat} (hc : X.calm = true) (h : PGs X es t)
    (hn : (assignEach es X.env).length = n := by rfl) (hst : (assignEach es X.env).findIdx? (·.1) = none := by rfl) : PG X (.Tuple es k pos) (gTup X.K n t) := by
  intro pins s σ H v u Q I r hw
  obtain ⟨a, xs, e1, hq, hl, hw⟩ := hw
  subst e1
  cases r
  obtain ⟨its, rv, ht, hz⟩ := I.tuple hq
  refine assign_Tuple_tuple (I.ok.hd hc) ht (by simp [hn, ← hl, rv.length]) hst fun h' hx => ?_
  have I1 : Inv X pins σ H { s with heap := h' } := I.kept (t' := s.toks) fun b o e => hx b o (Nat.ne_of_lt (Heap.lt_size e)) e
  exact h pins _ σ H xs _ Q I1 (by simpa using rv) hw
def gSub (to ti : TE) (t : TSet) : TG := fun v σ H Q => to σ H fun o H1 => ti σ H1 fun i H2 => t o i v H2 fun H3 => Q σ H3
theorem pg_sub {o i : Expr} {to ti : TE} {t : TSet} (ho : PE X o to) (hi : PE X i ti) (hs : PSet X t)
    (ha : ∀ v, assign (.Subscript o i pos) X.env v = (do
      let ov ← holding [v] (eval o X.env)
      let iv ← holding [v, ov] (eval i X.env)
      standAt pos
      holding [v, ov, iv] (setItem ov iv v)
      release [v, ov, iv] []) := by intro _; rfl) : PG X (.Subscript o i pos) (gSub to ti t) := by
  intro pins s σ H v u Q I r h
  rw [ha]
  refine wpAny_bind (wpAny_holding (thn (ho pins s σ H _ I h) fun ov s1 ⟨x, H1, I1, r1, q1⟩ => ?_))
  refine wpAny_bind (wpAny_holding (thn (hi pins s1 σ H1 _ I1 q1) fun iv s2 ⟨y, H2, I2, r2, q2⟩ => ?_))
  refine wpAny_bind (wpAny_standAt (wpAny_bind (wpAny_holding (thn (hs pins s2 σ H2 x y v ov iv u _ I2 r1 r2 r q2) fun _ s3 ⟨H3, I3, q3⟩ => ?_))))
  exact wpAny_release ⟨σ, H3, I3, q3⟩
def tAsg (te : TE) (g : TG) : TS := fun D σ H => te σ H fun x H1 => g x σ H1 D.nx
theorem ps_asg {tg e : Expr} {te : TE} {g : TG} (he : PE X e te) (hg : PG X tg g) (hs : swapsWithSole [tg] e pos.line X.env = pure false := by rfl) (hw : swappedStores [tg] e X.env = pure none := by rfl)
    (h1 : (assignEach [tg] X.env).map (·.2) = [assign tg X.env] := by rfl) : PS X (.Assign [tg] e pos) (tAsg te g) := by
  intro pins s σ H D I h
  refine wpAny_Assign_stores (thn (he pins s σ H _ I h) fun v s1 ⟨x, H1, I1, r1, q1⟩ => ?_) hs hw
  rw [h1]
  exact thn (hg pins s1 σ H1 x v _ I1 r1 q1) fun _ s2 q => q
theorem ps_set {i : Nat} {x : Str} {e : Expr} {te : TE} {pos' : Pos} (hN : X.N.Nodup) (hi : X.N[i]? = some x) (hx : Loc X.env.scope x) (he : PE X e te) (hs : swapsWith e (some (.Name x pos')) pos.line X.env = pure false := by rfl) (hf : X.fn x = true ∨ X.env.scope.names.lookup x = some .local := by first | exact .inl rfl | exact .inr rfl | assumption) :
    PS X (.Assign [.Name x pos'] e pos) (tAsg te (gName i)) := by
  intro pins s σ H D I h
  refine wpAny_Assign_Name (thn (he pins s σ H _ I h) fun v s1 ⟨y, H1, I1, r1, q1⟩ => ?_) hs
  exact store_ok I1 hN hi hx r1 (fun s2 I2 => ⟨_, H1, I2, q1⟩) hf
def tPar (i j : Nat) (ta : TA) : TS := fun D σ H => ta σ H fun vs H1 => ∃ v w, vs = [v, w] ∧ D.nx ((σ.set i (some v)).set j (some w)) H1
theorem ps_par {i j : Nat} {x y : Str} {a b : Expr} {ta : TA} {px py pt : Pos} {kt k2 pt2} (hc : X.calm = true) (hN : X.N.Nodup) (hi : X.N[i]? = some x) (hj : X.N[j]? = some y) (hij : i ≠ j)
    (hx : X.env.scope.names.lookup x = some .local) (hy : X.env.scope.names.lookup y = some .local) (ha : PA X [a, b] ta)
    (hw : swappedStores [.Tuple [.Name x px, .Name y py] kt pt] (.Tuple [a, b] k2 pt2) X.env = pure (some [x, y]))
    (hs : swapsWithSole [.Tuple [.Name x px, .Name y py] kt pt] (.Tuple [a, b] k2 pt2) pos.line X.env = pure false := by rfl) :
    PS X (.Assign [.Tuple [.Name x px, .Name y py] kt pt] (.Tuple [a, b] k2 pt2) pos) (tPar i j ta) := by
  intro pins s σ H D I h
  rw [exec_Assign_arm]
  refine wpAny_bind (wpAny_standAt ?_)
  rw [hs]
  refine wpAny_bind (wpAny_pure ?_)
  rw [if_neg (by decide)]
  refine wpAny_bind (Tuple_ (thn (ha _ pins s σ H _ I h) fun us s1 ⟨vs, H1, I1, r1, q1⟩ => ?_))
  obtain ⟨v, w, e1, q1⟩ := q1
  subst e1
  obtain ⟨u1, u2, rfl, rv, rw'⟩ : ∃ u1 u2, us = [u1, u2] ∧ RelV v u1 ∧ RelV w u2 := by
    cases r1 with
    | cons p q =>
      cases q with
      | cons p' q' =>
        cases q'
        exact ⟨_, _, rfl, p, p'⟩
  refine wpAny_newObj_type ?_ (by show 2 ≤ sizeLine; decide)
  have I2 : Inv X pins σ H1 { s1 with heap := s1.heap.push { cls := .type "tuple", data := .seq [u1, u2].toArray } } := I1.kept (t' := s1.toks) fun b o e => Heap.get?_push_of_some _ e
  rw [hw]
  refine wpAny_bind (wpAny_pure ?_)
  show wpAny (model X.prog X.w) X.A (do rule "assign.swapped-stores"; let items ← unpackItems (.ref s1.heap.objs.size) 2 none; assignInOrder [fun v => bindName X.env y v, fun v => bindName X.env x v] items.reverse; pure Flow.next) _ _ _
  refine wpAny_bind (wpAny_rule (wpAny_bind (unpackItems_tuple (items := #[u1, u2]) (I.ok.hd hc) (IsTup.new s1.heap _) fun h' hx' => ?_)))
  have I3 := I2.kept (h' := h') (t' := s1.toks) fun b o e => hx' b o (Nat.ne_of_lt (Heap.lt_size e)) e
  show wpAny _ _ (assignInOrder [fun v => bindName X.env y v, fun v => bindName X.env x v] [u2, u1] >>= fun _ => pure Flow.next) _ _ _
  refine wpAny_bind (assignInOrder_cons (wpAny_bindName (store_ok I3 hN hj (.inl hy) rw' (fun s2 I4 => ?_) (.inr hy))))
  refine assignInOrder_cons (wpAny_bindName (store_ok I4 hN hi (.inl hx) rv (fun s3 I5 => assignInOrder_nil (wpAny_pure ?_)) (.inr hx)))
  rw [List.set_comm _ _ (Ne.symm hij)] at I5
  exact ⟨_, H1, I5, q1⟩
end
section
variable {X : Cx} {pos : Pos}
def tWhile (c : TT) (tb : TS) : TS := fun D σ H => ∃ W : Nat → St → Hp → Prop, (∃ m, W m σ H) ∧ ∀ m σ H, W m σ H →
  c σ H fun b H1 => if b = true then ∃ N : St → Hp → Prop, (∀ σ' H', N σ' H' → ∃ m', m' < m ∧ W m' σ' H') ∧ tb { D with nx := N, ct := N, bk := D.nx } σ H1 else D.nx σ H1
theorem ps_while {c : Expr} {body : List Stmt} {tc : TT} {tb : TS} (hp : PassesOwn (model X.prog X.w) X.A X.env X.xe) (hc : PT X c tc) (hb : PSs X body tb) : PS X (.While c body [] pos) (tWhile tc tb) := by
  intro pins s σ H D I h
  obtain ⟨W, ⟨m0, w0⟩, turn⟩ := h
  refine wpAny_While (codeAny_whileLoop (fun n s' => ∃ σ' H', Inv X pins σ' H' s' ∧ W n σ' H') ?_ m0 ⟨σ, H, I, w0⟩)
  rintro n s1 ⟨σ1, H1, I1, w1⟩
  refine wpAny_passesOwn hp (thn (hc pins s1 σ1 H1 _ I1 (turn n σ1 H1 w1)) fun b s2 ⟨H2, I2, q2⟩ => ?_)
  cases b with
  | true =>
    obtain ⟨N, hN, q2⟩ := q2
    rw [if_pos rfl]
    refine wpAny_passesOwn hp (thn (hb pins s2 σ1 H2 _ I2 q2) fun f s3 q3 => ?_)
    cases f with
    | next =>
      obtain ⟨σ3, H3, I3, n3⟩ := q3
      obtain ⟨m', hm, w3⟩ := hN σ3 H3 n3
      exact ⟨m', hm, σ3, H3, I3, w3⟩
    | cont =>
      obtain ⟨σ3, H3, I3, n3⟩ := q3
      obtain ⟨m', hm, w3⟩ := hN σ3 H3 n3
      exact ⟨m', hm, σ3, H3, I3, w3⟩
    | brk => exact q3
    | ret v => exact q3
  | false =>
    rw [if_neg Bool.false_ne_true]
    exact wpAny_execs_nil ⟨σ1, H2, I2, q2⟩
end
structure It where
  go : Nat → Hp → Prop
  yld : Nat → Hp → V → Hp → Prop
  stop : Nat → Hp → Prop
def FpOk (X : Cx) (pins : List (Addr × Obj)) (H : Hp) (b : Addr) : Prop :=
  H b = none ∧ b ≠ X.env.locals ∧ b ∉ X.fs ∧ (b ∈ X.ex ∨ X.s₀.heap.objs.size ≤ b) ∧ (∀ x c, X.env.cells.lookup x = some c → c ≠ b) ∧ ∀ p ∈ X.pn ++ pins, p.1 ≠ b
theorem Inv.fpOk {X : Cx} {pins : List (Addr × Obj)} {σ : St} {H H' : Hp} {s : Shared} {b : Addr} (I : Inv X pins σ H s) (hb : s.heap.objs.size ≤ b) (hn : H' b = none) : FpOk X pins H' b := by
  refine ⟨hn, Nat.ne_of_gt (Nat.lt_of_lt_of_le I.lt hb), I.nofs hb, .inr (Nat.le_trans I.sz hb), fun x c e z => ?_, fun p hp z => ?_⟩
  · obtain ⟨v, q⟩ := I.cell x c e
    exact absurd (Nat.lt_of_lt_of_le q.lt (by rw [z]; exact hb)) (Nat.lt_irrefl _)
  · exact absurd (Nat.lt_of_lt_of_le (Heap.lt_size (I.pin p hp).1) (by rw [z]; exact hb)) (Nat.lt_irrefl _)
structure Turn (P : Program) (w : World) (K : PySem.W.Frag) (tg : Expr) (J : It) (fp : List Addr) (it : Addr) (tn : Nat → Heap → Prop) : Prop where
  mem : it ∈ fp
  obj : ∀ i h, tn i h → ∀ b ∈ fp, ∃ o, h.get? b = some o ∧ ∀ v, o.data ≠ .cell v
  keep : ∀ i h h', tn i h → (∀ b ∈ fp, ∀ o, h.get? b = some o → h'.get? b = some o) → tn i h'
  item : ∀ (X : Cx), X.prog = P → X.w = w → X.K = K → X.calm = true → ∀ (i : Nat) (pins : List (Addr × Obj)) (s : Shared) (σ : St) (H : Hp) (E : Value → Shared → Prop), Inv X pins σ H s → (∀ b ∈ fp, FpOk X pins H b) → tn i s.heap → J.go i H →
    wpAny (model P w) X.A (pyNext (.ref it)) (fun r s1 => ∃ u, r = some u ∧
      wpAny (model P w) X.A (letOwnedTupleGo tg (.ref it) u) (fun _ s2 => ∃ x H', Inv X pins σ H' s2 ∧ RelV x u ∧ J.yld i H x H' ∧ tn (i + 1) s2.heap ∧ ∀ b ∈ fp, H' b = none) E s1) E s
  done : ∀ (X : Cx), X.prog = P → X.w = w → X.K = K → X.calm = true → ∀ (i : Nat) (pins : List (Addr × Obj)) (s : Shared) (σ : St) (H : Hp) (E : Value → Shared → Prop), Inv X pins σ H s → (∀ b ∈ fp, FpOk X pins H b) → tn i s.heap → J.stop i H →
    wpAny (model P w) X.A (pyNext (.ref it)) (fun r s1 => r = none ∧ Inv X pins σ H s1) E s
  self : ∀ (A : Around) (i : Nat) (s : Shared) (Q : Value → Shared → Prop) (E : Value → Shared → Prop), tn i s.heap → Q (.ref it) s → wpAny (model P w) A (pyIter (.ref it)) Q E s
abbrev TI := St → Hp → (It → Hp → Prop) → Prop
def PIE (X : Cx) (pins : List (Addr × Obj)) (σ : St) (tg : Expr) (R : It → Hp → Prop) (itv : Value) (s2 : Shared) : Prop :=
  ∃ (it : Addr) (fp : List Addr) (tn : Nat → Heap → Prop) (J : It) (H' : Hp), itv = .ref it ∧ Inv X pins σ H' s2 ∧ Turn X.prog X.w X.K tg J fp it tn ∧ tn 0 s2.heap ∧ (∀ b ∈ fp, FpOk X pins H' b) ∧ R J H'
def PI (X : Cx) (tg iter : Expr) (wi : TI) : Prop :=
  ∀ (pins : List (Addr × Obj)) (s : Shared) (σ : St) (H : Hp) (R : It → Hp → Prop), Inv X pins σ H s → wi σ H R →
    wpAny (model X.prog X.w) X.A (eval iter X.env) (fun v s1 => wpAny (model X.prog X.w) X.A (pyIter v) (PIE X pins σ tg R) X.xe s1) X.xe s
theorem go_of {M : Model} {A : Around} {E : Value → Shared → Prop} {s : Shared} {tg : Expr} {it : Addr} {u : Value} {o : Obj} {n : String} {vs : Array Value} {Q : Unit → Shared → Prop} (ho : s.heap.get? it = some o) (hc : o.cls = .type n) (hd : o.data = .fields vs)
    (hn : ["enumerate", "zip", "dict_itemiterator", "dict_reverseitemiterator", "odict_iterator", "itertools.zip_longest", "itertools.pairwise"].contains n = false) (hQ : Q () s) : wpAny M A (letOwnedTupleGo tg (.ref it) u) Q E s := by
  unfold letOwnedTupleGo
  cases tg <;> first
    | exact wpAny_pure hQ
    | (cases u <;> first
        | exact wpAny_pure hQ
        | (refine wpAny_bind (wpAny_load ho ?_)
           rw [hc, hd]
           show wpAny M A (if (["enumerate", "zip", "dict_itemiterator", "dict_reverseitemiterator", "odict_iterator", "itertools.zip_longest", "itertools.pairwise"].contains n && vs[0]? == some (rawInt _)) = true then _ else _) Q E s
           rw [if_neg (by intro h; rw [hn, Bool.false_and] at h; cases h)]
           exact wpAny_pure hQ))
def Itl (K : PySem.W.Frag) (a : Addr) : It :=
  ⟨fun i H => ∃ xs x, SqL K H a xs ∧ xs[i]? = some x, fun i H x H' => H' = H ∧ ∀ xs, SqL K H a xs → xs[i]? = some x, fun i H => ∃ xs, SqL K H a xs ∧ xs.length ≤ i⟩
def Itr (lo : Int) (n : Nat) : It := ⟨fun i _ => i < n, fun i H x H' => H' = H ∧ x = .int (lo + i), fun i _ => n ≤ i⟩
theorem turn_list {P : Program} {w : World} {K : PySem.W.Frag} {tg : Expr} (a it : Addr) : Turn P w K tg (Itl K a) [it] it (fun i h => h.IsListIter it a i) where
  mem := by simp
  obj := fun i h st b hb => by
    have e : b = it := by simpa using hb
    subst e
    obtain ⟨o, e, c, d⟩ := st
    exact ⟨o, e, fun v z => by rw [d] at z; cases z⟩
  keep := fun i h h' st k => st.at fun o e => k it (by simp) o e
  item := by
    intro X hP hw hK hc i pins s σ H E I hf st hg
    subst hP hw hK
    obtain ⟨xs, x, hq, hx⟩ := hg
    obtain ⟨its, rv, p, hz⟩ := I.list hq
    obtain ⟨u, hu, ru⟩ := rv.get hx
    obtain ⟨f0, f1, f2, f3, f4, f5⟩ := hf it (by simp)
    refine wpAny_pyNext_list_item st p.isList (x := u) (by simpa using hu) fun h' st' sb => ?_
    have I1 : Inv X pins σ H { s with heap := h' } := I.turned (t' := s.toks) (fun b o hb e => (sb.2 b hb).trans e) f0 f1 f3 f4 f5
    obtain ⟨o, e, c, d⟩ := id st'
    exact ⟨u, rfl, go_of (s := { s with heap := h' }) e c d (by decide) ⟨x, H, I1, ru, ⟨rfl, fun ys hy => by rw [I.list_inj hy hq]; exact hx⟩, st', fun b hb => (hf b hb).1⟩⟩
  done := by
    intro X hP hw hK hc i pins s σ H E I hf st hg
    subst hP hw hK
    obtain ⟨xs, hq, hx⟩ := hg
    obtain ⟨its, rv, p, hz⟩ := I.list hq
    obtain ⟨f0, f1, f2, f3, f4, f5⟩ := hf it (by simp)
    have hl := rv.length
    exact wpAny_pyNext_list_end (I.ok.hd hc) st p.isList (by simp; omega) fun h' eb => ⟨rfl, I.turned (t' := s.toks) (fun b o hb e => eb b o hb e) f0 f1 f3 f4 f5⟩
  self := fun _ _ _ _ _ st h => wpAny_pyIter_listiter st h
theorem turn_range {P : Program} {w : World} {K : PySem.W.Frag} {tg : Expr} (it : Addr) (lo : Int) (n : Nat) : Turn P w K tg (Itr lo n) [it] it (fun i h => IsRangeIter h it (lo + (i : Nat) * 1) ((n : Int) - (i : Nat)) 1) where
  mem := by simp
  obj := fun i h st b hb => by
    have e : b = it := by simpa using hb
    subst e
    exact ⟨_, st, fun v z => by
      have z' : Data.fields _ = Data.cell v := z
      cases z'⟩
  keep := fun i h h' st k => k it (by simp) _ st
  item := by
    intro X hP hw hK hc i pins s σ H E I hf st hg
    subst hP hw hK
    obtain ⟨f0, f1, f2, f3, f4, f5⟩ := hf it (by simp)
    have W := Walks.range (prog := X.prog) (w := X.w) (I.ok.hd hc) it lo 1 n
    refine W.item i s _ _ hg st fun v h' tk hv st' kk => ?_
    obtain ⟨t, rfl⟩ := hv
    have I1 : Inv X pins σ H { s with heap := h', toks := tk } := I.turned (fun b o hb e => kk b o (by simpa using hb) e) f0 f1 f3 f4 f5
    refine ⟨_, rfl, go_of (s := { s with heap := h', toks := tk }) (n := "range_iterator") st' rfl rfl (by decide) ⟨.int (lo + i), H, I1, ⟨t, ?_⟩, ⟨rfl, rfl⟩, st', fun b hb => (hf b hb).1⟩⟩
    rw [Int.mul_one]
  done := by
    intro X hP hw hK hc i pins s σ H E I hf st hg
    subst hP hw hK
    obtain ⟨f0, f1, f2, f3, f4, f5⟩ := hf it (by simp)
    exact wpAny_pyNext_range_end (I.ok.hd hc) st (by have : n ≤ i := hg; omega) fun h' eb => ⟨rfl, I.turned (t' := s.toks) (fun b o hb e => eb b o hb e) f0 f1 f3 f4 f5⟩
  self := fun _ _ _ _ _ st h => wpAny_pyIter_rangeiter st h
end L2
namespace L2
open PySem PySem.Spec PyProof.Rows
section
variable {X : Cx} {tg : Expr}
def iList (K : PySem.W.Frag) (tl : TE) : TI := fun σ H R => tl σ H fun x H1 => ∃ a, x = .ref a ∧ (∃ xs, SqL K H1 a xs) ∧ R (Itl K a) H1
theorem pi_list {l : Expr} {tl : TE} (hl : PE X l tl) : PI X tg l (iList X.K tl) := by
  intro pins s σ H R I h
  refine thn (hl pins s σ H _ I h) fun v s1 ⟨x, H1, I1, r1, q1⟩ => ?_
  obtain ⟨a, e, ⟨xs, hq⟩, q⟩ := q1
  subst e
  cases r1
  obtain ⟨its, rv, p, hz⟩ := I1.list hq
  refine wpAny_pyIter_list p.isList ?_
  refine ⟨s1.heap.objs.size, [s1.heap.objs.size], _, _, H1, rfl, I1.kept (t' := s1.toks) fun b o e => Heap.get?_push_of_some _ e, turn_list a _, ⟨_, Heap.get?_push_size _ rfl, rfl, rfl⟩, fun b hb => ?_, q⟩
  have e : b = s1.heap.objs.size := by simpa using hb
  subst e
  exact I1.fpOk (Nat.le_refl _) (I1.hok.fresh (Nat.le_refl _))
theorem range_it {pins : List (Addr × Obj)} {σ : St} {H : Hp} {s : Shared} {R : It → Hp → Prop} {E : Value → Shared → Prop} {lo hi : Int} {t u v : Tok} {tk : Nat} (I : Inv X pins σ H s) (h1 : -(2 ^ 62) ≤ lo) (h2 : lo < 2 ^ 62) (h3 : -(2 ^ 62) ≤ hi) (h4 : hi < 2 ^ 62)
    (q : R (Itr lo (hi - lo).toNat) H) : wpAny (model X.prog X.w) X.A (pyIter (.ref s.heap.objs.size)) (PIE X pins σ tg R) E { s with heap := s.heap.push { cls := .type "range", data := .fields #[.int lo t, .int hi u, .int 1 v] }, toks := tk } := by
  refine wpAny_pyIter_range (IsRange.new ..) (small_one h1 h2 h3 h4) ?_
  have I1 : Inv X pins σ H { s with heap := s.heap.push { cls := .type "range", data := .fields #[.int lo t, .int hi u, .int 1 v] }, toks := tk } := I.kept fun b o e => Heap.get?_push_of_some _ e
  refine ⟨(s.heap.push { cls := .type "range", data := .fields #[.int lo t, .int hi u, .int 1 v] }).objs.size, [(s.heap.push { cls := .type "range", data := .fields #[.int lo t, .int hi u, .int 1 v] }).objs.size], _, _, H, rfl,
    I1.kept (t' := tk) fun b o e => Heap.get?_push_of_some _ e, turn_range _ lo (hi - lo).toNat, ?_, fun b hb => ?_, q⟩
  · have e1 : lo + ((0 : Nat) : Int) * 1 = lo := by simp
    have e2 : (((hi - lo).toNat : Nat) : Int) - ((0 : Nat) : Int) = Builtin.Range.rangeSize lo hi 1 := by rw [rangeSize_one]; split <;> omega
    show IsRangeIter _ _ (lo + ((0 : Nat) : Int) * 1) ((((hi - lo).toNat : Nat) : Int) - ((0 : Nat) : Int)) 1
    rw [e1, e2]
    exact Heap.get?_push_size _ rfl
  · have e : b = (s.heap.push { cls := .type "range", data := .fields #[.int lo t, .int hi u, .int 1 v] }).objs.size := by simpa using hb
    subst e
    exact I1.fpOk (Nat.le_refl _) (I1.hok.fresh (Nat.le_refl _))
def iRng1 (ta : TA) : TI := fun σ H R => ta σ H fun vs H1 => ∃ j : Int, vs = [.int j] ∧ -(2 ^ 62) ≤ j ∧ j < 2 ^ 62 ∧ R (Itr 0 j.toNat) H1
theorem pi_range1 {a : Expr} {ta : TA} {p pos : Pos} (hg : Gl X "range") (hm : X.mg "range" = none) (ha : PA X [a] ta) (hs : starEach [a] X.env = [(false, eval a X.env)] := by rfl) : PI X tg (.Call (.Name "range" p) [a] [] pos) (iRng1 ta) := by
  intro pins s σ H R I h
  refine Call_ (ld_blt I hg hm boot_range (PyProof.Rows.callWith_type1 (thn (ha pos pins s σ H _ I h) fun us s1 ⟨vs, H1, I1, r1, q1⟩ => ?_) hs rfl))
  obtain ⟨j, e, q1, q2, q⟩ := q1
  subst e
  cases r1 with
  | cons r rr =>
    cases rr
    obtain ⟨t, rfl⟩ := r
    exact call_range_1 (range_it I1 (by omega) (by omega) q1 q2 (by simpa using q))
def tFor (wi : TI) (g : TG) (tb : TS) : TS := fun D σ H => wi σ H fun J H1 => ∃ W : Nat → Nat → St → Hp → Prop, (∃ m, W 0 m σ H1) ∧ ∀ i m σ H, W i m σ H →
  (J.stop i H ∧ D.nx σ H) ∨ (J.go i H ∧ ∃ N : St → Hp → Prop, (∀ σ' H', N σ' H' → ∃ m', m' < m ∧ W (i + 1) m' σ' H') ∧ ∀ x H', J.yld i H x H' → g x σ H' fun σ2 H2 => tb { D with nx := N, ct := N, bk := D.nx } σ2 H2)
def pinsAt (fp : List Addr) (h : Heap) : List (Addr × Obj) := fp.filterMap fun b => (h.get? b).map fun o => (b, o)
theorem mem_pinsAt {fp : List Addr} {h : Heap} {b : Addr} {o : Obj} (hb : b ∈ fp) (e : h.get? b = some o) : (b, o) ∈ pinsAt fp h := List.mem_filterMap.mpr ⟨b, hb, by rw [e]; rfl⟩
theorem of_pinsAt {fp : List Addr} {h : Heap} {p : Addr × Obj} (hp : p ∈ pinsAt fp h) : p.1 ∈ fp ∧ h.get? p.1 = some p.2 := by
  obtain ⟨b, hb, e⟩ := List.mem_filterMap.mp hp
  cases q : h.get? b with
  | none => rw [q] at e; cases e
  | some o =>
    rw [q] at e
    have e' : (b, o) = p := Option.some.inj e
    subst e'
    exact ⟨hb, q⟩
theorem Inv.pinned {pins : List (Addr × Obj)} {σ : St} {H : Hp} {s : Shared} {fp : List Addr} (I : Inv X pins σ H s) (hf : ∀ b ∈ fp, FpOk X pins H b) (ho : ∀ b ∈ fp, ∃ o, s.heap.get? b = some o ∧ ∀ v, o.data ≠ .cell v) : Inv X (pins ++ pinsAt fp s.heap) σ H s :=
  I.pins_of fun p hp => (List.mem_append.mp hp).elim (fun z => I.pin p (List.mem_append_right _ z)) fun z => by
    obtain ⟨hb, e⟩ := of_pinsAt z
    obtain ⟨f0, f1, f2, _⟩ := hf p.1 hb
    obtain ⟨o, e', d⟩ := ho p.1 hb
    rw [e] at e'; cases e'
    exact ⟨e, f0, f1, f2, d⟩
theorem Inv.unpinned {pins pl : List (Addr × Obj)} {σ : St} {H : Hp} {s : Shared} (I : Inv X (pins ++ pl) σ H s) : Inv X pins σ H s := I.pins_of fun p hp => I.pin p (List.mem_append_right _ (List.mem_append_left _ hp))
theorem ps_for {iter : Expr} {body : List Stmt} {wi : TI} {g : TG} {tb : TS} {pos : Pos} (hp : PassesOwn (model X.prog X.w) X.A X.env X.xe) (hc : X.calm = true) (hi : PI X tg iter wi) (hg : PG X tg g) (hb : PSs X body tb)
    (hs : ∀ x, foldedSetIterable iter X.env x = pure x := by intro _; rfl) : PS X (.For tg iter body [] pos) (tFor wi g tb) := by
  intro pins s σ H D I h
  refine wpAny_For (thn (hi pins s σ H _ I h) fun v s1 h1 => thn h1 fun itv s2 h2 => ?_) hs
  obtain ⟨it, fp, tn, J, H2, e, I2, T, st2, f2, W, ⟨m0, w0⟩, turn⟩ := h2
  subst e
  have stat : ∀ {H' : Hp}, (∀ b ∈ fp, H' b = none) → ∀ b ∈ fp, FpOk X pins H' b := fun hn b hb => ⟨hn b hb, (f2 b hb).2⟩
  refine codeAny_forLoop_any (fun n s' => ∃ i σ' H', Inv X pins σ' H' s' ∧ tn i s'.heap ∧ (∀ b ∈ fp, H' b = none) ∧ W i n σ' H') ?_ m0 ⟨0, σ, H2, I2, st2, fun b hb => (f2 b hb).1, w0⟩
  rintro n s3 ⟨i, σ3, H3, I3, st3, fr3, w3⟩
  rcases turn i n σ3 H3 w3 with ⟨stop, qn⟩ | ⟨go, N, hN, step⟩
  · refine wpAny_passesOwn hp (thn (T.done X rfl rfl rfl hc i pins s3 σ3 H3 X.xe I3 (stat fr3) st3 stop) fun r s4 ⟨hr, I4⟩ => ?_)
    subst hr
    exact wpAny_execs_nil ⟨σ3, H3, I4, qn⟩
  · refine wpAny_passesOwn hp (thn (T.item X rfl rfl rfl hc i pins s3 σ3 H3 X.xe I3 (stat fr3) st3 go) fun r s4 ⟨u, hr, h4⟩ => ?_)
    subst hr
    refine wpAny_passesOwn hp (thn h4 fun _ s5 ⟨x, H5, I5, r5, y5, st5, fr5⟩ => ?_)
    have I5' := I5.pinned (stat fr5) (T.obj _ _ st5)
    refine wpAny_passesOwn hp (thn (hg _ s5 σ3 H5 x u _ I5' r5 (step x H5 y5)) fun _ s6 ⟨σ6, H6, I6, q6⟩ => ?_)
    refine wpAny_passesOwn hp (thn (hb _ s6 σ6 H6 _ I6 q6) fun f s7 q7 => ?_)
    have again : ∀ {σ7 : St} {H7 : Hp}, Inv X (pins ++ pinsAt fp s5.heap) σ7 H7 s7 → N σ7 H7 → ∃ m, m < n ∧ ∃ i σ' H', Inv X pins σ' H' s7 ∧ tn i s7.heap ∧ (∀ b ∈ fp, H' b = none) ∧ W i m σ' H' := fun {σ7 H7} I7 n7 => by
      obtain ⟨m', hm, w7⟩ := hN σ7 H7 n7
      refine ⟨m', hm, i + 1, σ7, H7, I7.unpinned, T.keep _ _ _ st5 fun b hb o e => (I7.pin (b, o) (List.mem_append_right _ (List.mem_append_right _ (mem_pinsAt hb e)))).1, fun b hb => ?_, w7⟩
      obtain ⟨o, e, d⟩ := T.obj _ _ st5 b hb
      exact (I7.pin (b, o) (List.mem_append_right _ (List.mem_append_right _ (mem_pinsAt hb e)))).2.1
    cases f with
    | next => obtain ⟨σ7, H7, I7, n7⟩ := q7; exact again I7 n7
    | cont => obtain ⟨σ7, H7, I7, n7⟩ := q7; exact again I7 n7
    | brk => obtain ⟨σ7, H7, I7, q7⟩ := q7; exact ⟨σ7, H7, I7.unpinned, q7⟩
    | ret v => obtain ⟨x7, σ7, H7, I7, r7, q7⟩ := q7; exact ⟨x7, σ7, H7, I7.unpinned, r7, q7⟩
end
theorem for_list {K : PySem.W.Frag} {a : Addr} {xs : List V} {g : TG} {tb : TS} {D : Ends} {σ : St} {H : Hp} (Pv : Nat → St → Hp → Prop) (h0 : Pv 0 σ H) (hl : ∀ i σ H, i ≤ xs.length → Pv i σ H → SqL K H a xs)
    (hs : ∀ i x σ H, xs[i]? = some x → Pv i σ H → g x σ H fun σ2 H2 => tb { D with nx := Pv (i + 1), ct := Pv (i + 1), bk := D.nx } σ2 H2) (hd : ∀ σ H, Pv xs.length σ H → D.nx σ H) :
    ∃ W : Nat → Nat → St → Hp → Prop, (∃ m, W 0 m σ H) ∧ ∀ i m σ H, W i m σ H →
      ((Itl K a).stop i H ∧ D.nx σ H) ∨ ((Itl K a).go i H ∧ ∃ N : St → Hp → Prop, (∀ σ' H', N σ' H' → ∃ m', m' < m ∧ W (i + 1) m' σ' H') ∧ ∀ x H', (Itl K a).yld i H x H' → g x σ H' fun σ2 H2 => tb { D with nx := N, ct := N, bk := D.nx } σ2 H2) := by
  refine ⟨fun i m σ H => m = xs.length - i ∧ i ≤ xs.length ∧ Pv i σ H, ⟨xs.length, by simp, Nat.zero_le _, h0⟩, ?_⟩
  rintro i m σ H ⟨rfl, hi, p⟩
  have q := hl i σ H hi p
  by_cases hlt : i < xs.length
  · refine .inr ⟨⟨xs, xs[i], q, by simp [hlt]⟩, Pv (i + 1), fun σ' H' p' => ⟨xs.length - (i + 1), by omega, rfl, hlt, p'⟩, fun x H' y => ?_⟩
    obtain ⟨e, y⟩ := y
    subst e
    exact hs i x σ _ (y xs q) p
  · have e : i = xs.length := by omega
    subst e
    exact .inl ⟨⟨xs, q, Nat.le_refl _⟩, hd σ H p⟩
theorem for_range {lo : Int} {n : Nat} {g : TG} {tb : TS} {D : Ends} {σ : St} {H : Hp} (Pv : Nat → St → Hp → Prop) (h0 : Pv 0 σ H)
    (hs : ∀ i σ H, i < n → Pv i σ H → g (.int (lo + i)) σ H fun σ2 H2 => tb { D with nx := Pv (i + 1), ct := Pv (i + 1), bk := D.nx } σ2 H2) (hd : ∀ σ H, Pv n σ H → D.nx σ H) :
    ∃ W : Nat → Nat → St → Hp → Prop, (∃ m, W 0 m σ H) ∧ ∀ i m σ H, W i m σ H →
      ((Itr lo n).stop i H ∧ D.nx σ H) ∨ ((Itr lo n).go i H ∧ ∃ N : St → Hp → Prop, (∀ σ' H', N σ' H' → ∃ m', m' < m ∧ W (i + 1) m' σ' H') ∧ ∀ x H', (Itr lo n).yld i H x H' → g x σ H' fun σ2 H2 => tb { D with nx := N, ct := N, bk := D.nx } σ2 H2) := by
  refine ⟨fun i m σ H => m = n - i ∧ i ≤ n ∧ Pv i σ H, ⟨n, by simp, Nat.zero_le _, h0⟩, ?_⟩
  rintro i m σ H ⟨rfl, hi, p⟩
  by_cases hlt : i < n
  · refine .inr ⟨hlt, Pv (i + 1), fun σ' H' p' => ⟨n - (i + 1), by omega, rfl, hlt, p'⟩, fun x H' y => ?_⟩
    obtain ⟨e, y⟩ := y
    subst e y
    exact hs i σ _ hlt p
  · have e : i = n := by omega
    subst e
    exact .inl ⟨Nat.le_refl _, hd σ H p⟩
end L2
namespace L2
open PySem PySem.Spec PyProof.Rows
abbrev R2 := V → V → Hp → VK → Prop
def OpR (X : Cx) (f : Value → Value → Sem Value) (r : R2) : Prop :=
  ∀ (pins : List (Addr × Obj)) (s : Shared) (σ : St) (H : Hp) (x y : V) (v u : Value) (Q : VK), Inv X pins σ H s → RelV x v → RelV y u → r x y H Q →
    wpAny (model X.prog X.w) X.A (f v u) (EP X pins σ Q) X.xe s
def UnR (X : Cx) (f : Value → Sem Value) (r : V → Hp → VK → Prop) : Prop :=
  ∀ (pins : List (Addr × Obj)) (s : Shared) (σ : St) (H : Hp) (x : V) (v : Value) (Q : VK), Inv X pins σ H s → RelV x v → r x H Q →
    wpAny (model X.prog X.w) X.A (f v) (EP X pins σ Q) X.xe s
def CallR (X : Cx) (f : Value) (r : List V → Hp → VK → Prop) : Prop :=
  ∀ (pins : List (Addr × Obj)) (s : Shared) (σ : St) (H : Hp) (xs : List V) (us : List Value) (Q : VK), Inv X pins σ H s → Vals xs us → r xs H Q →
    wpAny (model X.prog X.w) X.A (call f us) (EP X pins σ Q) X.xe s
def tOp (r : R2) (ta tb : TE) : TE := fun σ H Q => ta σ H fun x H1 => tb σ H1 fun y H2 => r x y H2 Q
def tUn (r : V → Hp → VK → Prop) (ta : TE) : TE := fun σ H Q => ta σ H fun x H1 => r x H1 Q
def rI (C : Int → Int → Prop) (g : Int → Int → V) : R2 := fun x y H Q => ∃ i j, x = .int i ∧ y = .int j ∧ C i j ∧ Q (g i j) H
def rI0 (g : Int → Int → V) : R2 := fun x y H Q => ∃ i j, x = .int i ∧ y = .int j ∧ Q (g i j) H
def rU (g : Int → V) : V → Hp → VK → Prop := fun x H Q => ∃ i, x = .int i ∧ Q (g i) H
section
variable {X : Cx} {a b c : Expr} {ta tb tc : TE} {pos : Pos}
theorem binT (ha : PE X a ta) (hb : PE X b tb) {pins : List (Addr × Obj)} {s : Shared} {σ : St} {H : Hp} {R : V → V → Hp → Prop} (I : Inv X pins σ H s)
    (h : ta σ H fun x H1 => tb σ H1 fun y H2 => R x y H2) {Q : Value → Shared → Prop} {f : Value → Value → Sem Value}
    (hf : ∀ v u s2 x y H2, Inv X pins σ H2 s2 → RelV x v → RelV y u → R x y H2 → wpAny (model X.prog X.w) X.A (f v u) Q X.xe s2) :
    wpAny (model X.prog X.w) X.A (eval a X.env) (fun v s₁ => wpAny (model X.prog X.w) X.A (eval b X.env) (fun u s₂ => wpAny (model X.prog X.w) X.A (f v u) Q X.xe s₂) X.xe s₁) X.xe s := by
  refine thn (ha pins s σ H _ I h) fun v s1 ⟨x, H1, I1, r1, q1⟩ => ?_
  refine thn (hb pins s1 σ H1 _ I1 q1) fun u s2 ⟨y, H2, I2, r2, q2⟩ => ?_
  exact hf v u s2 x y H2 I2 r1 r2 q2
theorem pe_op {op : Operator} {r : R2} (ho : OpR X (binaryOp op) r) (ha : PE X a ta) (hb : PE X b tb) : PE X (.BinOp a op b pos) (tOp r ta tb) := by
  intro pins s σ H Q I h
  exact wpAny_BinOp (binT ha hb I h fun v u s2 x y H2 I2 rx ry q => ho pins s2 σ H2 x y v u Q I2 rx ry q)
theorem pe_un {op : UnaryOp} {r : V → Hp → VK → Prop} (ho : UnR X (unaryOp op) r) (ha : PE X a ta) : PE X (.UnaryOp op a pos) (tUn r ta) := by
  intro pins s σ H Q I h
  exact UnaryOp_ (thn (ha pins s σ H _ I h) fun v s1 ⟨x, H1, I1, r1, q1⟩ => ho pins s1 σ H1 x v Q I1 r1 q1)
theorem opI {f : Value → Value → Sem Value} {C : Int → Int → Prop} {g : Int → Int → Int}
    (rule : ∀ (i j : Int) (t u : Tok) (s : Shared) (Q : Value → Shared → Prop) (E : Value → Shared → Prop), C i j → Q (.int (g i j) s.toks) { s with toks := s.toks + 1 } → wpAny (model X.prog X.w) X.A (f (.int i t) (.int j u)) Q E s) :
    OpR X f (rI C fun i j => .int (g i j)) := by
  intro pins s σ H x y v u Q I rx ry h
  obtain ⟨i, j, rfl, rfl, hc, q⟩ := h
  obtain ⟨t, rfl⟩ := rx
  obtain ⟨t', rfl⟩ := ry
  exact rule i j t t' s _ _ hc ⟨.int (g i j), H, I.tok _, ⟨_, rfl⟩, q⟩
theorem opI0 {f : Value → Value → Sem Value} {g : Int → Int → Int}
    (rule : ∀ (i j : Int) (t u : Tok) (s : Shared) (Q : Value → Shared → Prop) (E : Value → Shared → Prop), Q (.int (g i j) s.toks) { s with toks := s.toks + 1 } → wpAny (model X.prog X.w) X.A (f (.int i t) (.int j u)) Q E s) :
    OpR X f (rI0 fun i j => .int (g i j)) := by
  intro pins s σ H x y v u Q I rx ry h
  obtain ⟨i, j, rfl, rfl, q⟩ := h
  obtain ⟨t, rfl⟩ := rx
  obtain ⟨t', rfl⟩ := ry
  exact rule i j t t' s _ _ ⟨.int (g i j), H, I.tok _, ⟨_, rfl⟩, q⟩
theorem opB0 {f : Value → Value → Sem Value} {g : Int → Int → Bool}
    (rule : ∀ (i j : Int) (t u : Tok) (s : Shared) (Q : Value → Shared → Prop) (E : Value → Shared → Prop), Q (.bool (g i j)) s → wpAny (model X.prog X.w) X.A (f (.int i t) (.int j u)) Q E s) :
    OpR X f (rI0 fun i j => .bl (g i j)) := by
  intro pins s σ H x y v u Q I rx ry h
  obtain ⟨i, j, rfl, rfl, q⟩ := h
  obtain ⟨t, rfl⟩ := rx
  obtain ⟨t', rfl⟩ := ry
  exact rule i j t t' s _ _ ⟨.bl (g i j), H, I, rfl, q⟩
def CPow (i j : Int) : Prop := 0 ≤ j ∧ j ≤ 1000000 ∧ i.natAbs < 2 ^ 64
theorem op_add : OpR X (binaryOp .Add) (rI0 fun i j => .int (i + j)) := opI0 fun _ _ _ _ _ _ _ q => add_int q
theorem op_sub : OpR X (binaryOp .Sub) (rI0 fun i j => .int (i - j)) := opI0 fun _ _ _ _ _ _ _ q => sub_int q
theorem op_mod : OpR X (binaryOp .Mod) (rI (fun _ j => 0 < j) fun i j => .int (i % j)) := opI fun i j _ _ _ _ _ hc q => by
  have h1 : (0 : Int) < j := hc
  exact mod_int' (by omega) (by rw [Int.fmod_eq_emod_of_nonneg i (by omega)]; exact q)
theorem op_pow : OpR X (binaryOp .Pow) (rI CPow fun i j => .int (i ^ j.toNat)) := opI fun _ _ _ _ _ _ _ hc q => pow_int_small hc.1 hc.2.1 hc.2.2 q
theorem unI {f : Value → Sem Value} {g : Int → Int}
    (rule : ∀ (i : Int) (t : Tok) (s : Shared) (Q : Value → Shared → Prop) (E : Value → Shared → Prop), Q (.int (g i) s.toks) { s with toks := s.toks + 1 } → wpAny (model X.prog X.w) X.A (f (.int i t)) Q E s) :
    UnR X f (rU fun i => .int (g i)) := by
  intro pins s σ H x v Q I rx h
  obtain ⟨i, rfl, q⟩ := h
  obtain ⟨t, rfl⟩ := rx
  exact rule i t s _ _ ⟨.int (g i), H, I.tok _, ⟨_, rfl⟩, q⟩
theorem un_neg : UnR X (unaryOp .USub) (rU fun i => .int (-i)) := unI fun _ _ _ _ _ q => neg_int q
end
def scal : V → V → Bool
  | .non, .non => true | .non, .int _ => true | .int _, .non => true | .non, .bl _ => true | .bl _, .non => true | .non, .str _ => true | .str _, .non => true
  | .int _, .int _ => true | .bl _, .bl _ => true | .str _, .str _ => true | .byt _, .byt _ => true
  | .int _, .str _ => true | .str _, .int _ => true | .bl _, .str _ => true | .str _, .bl _ => true
  | _, _ => false
def rEq : R2 := fun x y H Q => scal x y = true ∧ Q (.bl (decide (x = y))) H
theorem dec_int {i j : Int} : decide (V.int i = V.int j) = (i == j) := by
  rw [Bool.eq_iff_iff]
  simp
theorem dec_bl {i j : Bool} : decide (V.bl i = V.bl j) = (i == j) := by
  rw [Bool.eq_iff_iff]
  simp
theorem dec_str {i j : Str} : decide (V.str i = V.str j) = (i == j) := by
  rw [Bool.eq_iff_iff]
  simp
theorem dec_byt {i j : Array UInt8} : decide (V.byt i = V.byt j) = (i.toList == j.toList) := by
  rw [Bool.eq_iff_iff]
  cases i
  cases j
  simp
section
variable {X : Cx} {a b c : Expr} {ta tb tc : TE} {pos : Pos}
theorem fin_bl {pins : List (Addr × Obj)} {σ : St} {H : Hp} {s : Shared} {Q : VK} {k k' : Bool} (I : Inv X pins σ H s) (q : Q (.bl k) H) (e : k = k') : EP X pins σ Q (.bool k') s := by
  subst e
  exact ⟨.bl k, H, I, rfl, q⟩
theorem op_eq : OpR X (compareOp .Eq) rEq := by
  intro pins s σ H x y v u Q I rx ry h
  obtain ⟨hs, q⟩ := h
  cases x with
  | non =>
    cases rx
    cases y with
    | non => cases ry; exact PySem.EqNone.eq_none_none (fin_bl I q (by simp))
    | bl j => cases ry; exact PySem.EqNone.eq_none_bool (fin_bl I q (by simp))
    | int j => obtain ⟨t', rfl⟩ := ry; exact PySem.EqNone.eq_none_int (fin_bl I q (by simp))
    | str j => obtain ⟨t', rfl⟩ := ry; exact PySem.EqNone.eq_none_str (fin_bl I q (by simp))
    | _ => exact absurd (show false = true from hs) Bool.false_ne_true
  | bl i =>
    cases rx
    cases y with
    | non => cases ry; exact PySem.EqNone.eq_bool_none (fin_bl I q (by simp))
    | bl j => cases ry; exact eq_bool (fin_bl I q dec_bl)
    | str j => obtain ⟨t', rfl⟩ := ry; exact PySem.EqMixed.eq_bool_str (fin_bl I q (by simp))
    | _ => exact absurd (show false = true from hs) Bool.false_ne_true
  | int i =>
    obtain ⟨t, rfl⟩ := rx
    cases y with
    | non => cases ry; exact PySem.EqNone.eq_int_none (fin_bl I q (by simp))
    | int j => obtain ⟨t', rfl⟩ := ry; exact eq_int (fin_bl I q dec_int)
    | str j => obtain ⟨t', rfl⟩ := ry; exact PySem.EqMixed.eq_int_str (fin_bl I q (by simp))
    | _ => exact absurd (show false = true from hs) Bool.false_ne_true
  | str i =>
    obtain ⟨t, rfl⟩ := rx
    cases y with
    | non => cases ry; exact PySem.EqNone.eq_str_none (fin_bl I q (by simp))
    | bl j => cases ry; exact PySem.EqMixed.eq_str_bool (fin_bl I q (by simp))
    | int j => obtain ⟨t', rfl⟩ := ry; exact PySem.EqMixed.eq_str_int (fin_bl I q (by simp))
    | str j => obtain ⟨t', rfl⟩ := ry; exact eq_str (fin_bl I q dec_str)
    | _ => exact absurd (show false = true from hs) Bool.false_ne_true
  | byt i =>
    obtain ⟨t, rfl⟩ := rx
    cases y with
    | byt j => obtain ⟨t', rfl⟩ := ry; exact PySem.W.eq_bytes (fin_bl I q dec_byt)
    | _ => exact absurd (show false = true from hs) Bool.false_ne_true
  | _ => cases y <;> exact absurd (show false = true from hs) Bool.false_ne_true
theorem op_lt : OpR X (compareOp .Lt) (rI0 fun i j => .bl (decide (i < j))) := opB0 fun _ _ _ _ _ _ _ q => lt_int q
theorem op_gt : OpR X (compareOp .Gt) (rI0 fun i j => .bl (decide (j < i))) := opB0 fun _ _ _ _ _ _ _ q => gt_int q
theorem nomark (b : Expr) {op : CmpOp} (h : op ≠ .In := by decide) (h2 : op ≠ .NotIn := by decide) : behindInMarks op b = false := by
  have e1 : (op == CmpOp.In) = false := by cases op <;> first | rfl | exact absurd rfl h
  have e2 : (op == CmpOp.NotIn) = false := by cases op <;> first | rfl | exact absurd rfl h2
  cases b <;> simp [behindInMarks, e1, e2]
theorem pe_cmpR {op : CmpOp} {r : R2} (ho : OpR X (compareOp op) r) (ha : PE X a ta) (hb : PE X b tb) (hm : behindInMarks op b = false) : PE X (.Compare a [op] [b] pos) (tOp r ta tb) := by
  intro pins s σ H Q I h
  exact wpAny_Compare1 (binT ha hb I h fun v u s2 x y H2 I2 rx ry q => ho pins s2 σ H2 x y v u Q I2 rx ry q) hm
def tTest (t : TE) : TT := fun σ H Q => t σ H fun x H' => ∃ k, x = .bl k ∧ Q k H'
theorem pt_cmpR {op : CmpOp} {r : R2} (ho : OpR X (compareOp op) r) (ha : PE X a ta) (hb : PE X b tb) (hm : behindInMarks op b = false) : PT X (.Compare a [op] [b] pos) (tTest (tOp r ta tb)) := by
  intro pins s σ H Q I h
  refine wpAny_isTrue_Compare1 (thn (ha pins s σ H _ I h) fun v s1 ⟨x, H1, I1, r1, q1⟩ => thn (hb pins s1 σ H1 _ I1 q1) fun u s2 ⟨y, H2, I2, r2, q2⟩ =>
    thn (ho pins s2 σ H2 x y v u _ I2 r1 r2 q2) fun c s3 ⟨z, H3, I3, r3, k, e, q3⟩ => ?_) hm
  subst e
  cases r3
  exact wpAny_truthy_bool ⟨H3, I3, q3⟩
theorem line63 : (sizeLine : Nat) < 2 ^ 63 := by rw [sizeLine_eq]; decide
theorem vals1 {x : V} {us : List Value} (r : Vals [x] us) : ∃ u, us = [u] ∧ RelV x u := by
  cases r with
  | cons r1 r2 => cases r2; exact ⟨_, rfl, r1⟩
theorem vals2 {x y : V} {us : List Value} (r : Vals [x, y] us) : ∃ u w', us = [u, w'] ∧ RelV x u ∧ RelV y w' := by
  cases r with
  | cons r1 r2 =>
    cases r2 with
    | cons r3 r4 => cases r4; exact ⟨_, _, rfl, r1, r3⟩
theorem call_abs : CallR X (.builtin "abs") (fun xs H Q => ∃ i, xs = [.int i] ∧ Q (.int (if i < 0 then -i else i)) H) := by
  intro pins s σ H xs us Q I r h
  obtain ⟨i, rfl, q⟩ := h
  obtain ⟨u, rfl, t, rfl⟩ := vals1 r
  exact call_abs_int fun u tk => ⟨.int (if i < 0 then -i else i), H, I.tok _, ⟨_, rfl⟩, q⟩
theorem call_max2 (hc : X.calm = true) : CallR X (.builtin "max") (fun xs H Q => ∃ i j, xs = [.int i, .int j] ∧ Q (.int (if j > i then j else i)) H) := by
  intro pins s σ H xs us Q I r h
  obtain ⟨i, j, rfl, q⟩ := h
  obtain ⟨u, w', rfl, ⟨t, rfl⟩, ⟨t', rfl⟩⟩ := vals2 r
  refine max_two_ints (I.ok.hd hc) fun h' tk k => ⟨_, H, I.kept k, ?_, q⟩
  by_cases hj : j > i
  · rw [if_pos hj, if_pos hj]; exact ⟨_, rfl⟩
  · rw [if_neg hj, if_neg hj]; exact ⟨_, rfl⟩
theorem call_min2 (hc : X.calm = true) : CallR X (.builtin "min") (fun xs H Q => ∃ i j, xs = [.int i, .int j] ∧ Q (.int (if j < i then j else i)) H) := by
  intro pins s σ H xs us Q I r h
  obtain ⟨i, j, rfl, q⟩ := h
  obtain ⟨u, w', rfl, ⟨t, rfl⟩, ⟨t', rfl⟩⟩ := vals2 r
  refine min_two_ints (I.ok.hd hc) fun h' tk k => ⟨_, H, I.kept k, ?_, q⟩
  by_cases hj : j < i
  · rw [if_pos hj, if_pos hj]; exact ⟨_, rfl⟩
  · rw [if_neg hj, if_neg hj]; exact ⟨_, rfl⟩
def LenV (K : PySem.W.Frag) (x : V) (H : Hp) (n : Nat) : Prop :=
  match x with
  | .str y => y.length ≤ sizeLine ∧ n = y.length
  | .byt y => y.size ≤ sizeLine ∧ n = y.size
  | .ref p => (∃ xs, SqL K H p xs ∧ n = xs.length) ∨ ∃ xs, SqT K H p xs ∧ n = xs.length
  | _ => False
theorem call_len : CallR X (.builtin "len") (fun xs H Q => ∃ x n, xs = [x] ∧ LenV X.K x H n ∧ Q (.int n) H) := by
  intro pins s σ H xs us Q I r h
  obtain ⟨x, n, rfl, e, q⟩ := h
  obtain ⟨u, rfl, rx⟩ := vals1 r
  have hl := line63
  have hs : sizeLine = 16777216 := sizeLine_eq
  cases x with
  | str y =>
    obtain ⟨t, rfl⟩ := rx
    obtain ⟨hy, e'⟩ : y.length ≤ sizeLine ∧ n = y.length := e
    subst e'
    exact len_str (by omega) ⟨.int _, H, I.tok _, ⟨_, rfl⟩, q⟩
  | byt y =>
    obtain ⟨t, rfl⟩ := rx
    obtain ⟨hy, e'⟩ : y.size ≤ sizeLine ∧ n = y.size := e
    subst e'
    exact PySem.W.len_bytes (by omega) ⟨.int _, H, I.tok _, ⟨_, rfl⟩, q⟩
  | ref p =>
    cases rx
    have e' : (∃ xs, SqL X.K H p xs ∧ n = xs.length) ∨ ∃ xs, SqT X.K H p xs ∧ n = xs.length := e
    rcases e' with ⟨xs, hx, e'⟩ | ⟨xs, hx, e'⟩
    · subst e'
      obtain ⟨its, r', pl, hz⟩ := I.list hx
      have hlen := r'.length
      exact Calls.call_len_list pl.isList (by simp only [List.size_toArray]; omega) ⟨.int xs.length, H, I.tok _, ⟨_, by simp only [List.size_toArray]; rw [hlen]⟩, q⟩
    · subst e'
      obtain ⟨its, r', pl, hz⟩ := I.tuple hx
      have hlen := r'.length
      exact len_tuple pl (by simp only [List.size_toArray]; omega) ⟨.int xs.length, H, I.tok _, ⟨_, by simp only [List.size_toArray]; rw [hlen]⟩, q⟩
  | _ => exact (show False from e).elim
end
end L2
namespace L2
open PySem PySem.Spec PyProof.Rows
structure ObjM (h : Heap) (x dx C : Addr) (mA : Str → Option Value) : Prop where
  obj : h.get? x = some (PySem.W.instObj C dx)
  ns : h.Ns1 dx mA
  ne : dx ≠ x
theorem lookIn_ns {h : Heap} {dx : Addr} {mA : Str → Option Value} (n : h.Ns1 dx mA) : ∃ od, h.get? dx = some od ∧ ∀ name, PySem.W.lookIn name od = some (mA name) := by
  obtain ⟨o, es, ep, ho, hd, hk, _, hm⟩ := n
  refine ⟨o, ho, fun name => ?_⟩
  have e := hm name
  unfold nsFind findBy at e
  rw [← Array.find?_toList] at e
  unfold PySem.W.lookIn
  rw [hd]
  dsimp only
  split
  · rename_i y q
    rw [q] at e
    exact congrArg some e
  · rename_i q
    rw [q] at e
    have a : es.toList.any (·.refKey) = false := by
      rw [List.any_eq_false]
      intro y hy
      obtain ⟨z, t, hkey⟩ := hk y (Array.mem_toList_iff.mp hy)
      simp [DictEntry.refKey, hkey]
    have a' : ¬ es.toList.any (·.refKey) = true := by rw [a]; exact Bool.false_ne_true
    rw [if_neg a']
    exact congrArg some e
theorem ObjM.look {h : Heap} {x dx C : Addr} {mA : Str → Option Value} (I : ObjM h x dx C mA) : ∃ od, PySem.W.InstAt h x (PySem.W.instObj C dx) C (some od) ∧ ∀ name, PySem.W.lookIn name od = some (mA name) :=
  let ⟨od, ho, hl⟩ := lookIn_ns I.ns
  ⟨od, ⟨I.obj, rfl, rfl, ho⟩, hl⟩
section
variable {prog : Program} {w : World} {A : Around} {E : Value → Shared → Prop} {s : Shared} {K : PySem.W.Frag} {x dx C f : Addr} {mA : Str → Option Value} {name : Str} {v : Value}
end
section
variable {P : Program} {w : World} {H H' : Hp} {h h' : Heap} {a C dx : Addr} {fs fs' : List (Str × V)}
theorem ins_get (hok : HOk P w H h) (e : H a = some (.ins C dx fs)) : ∃ mA, ObjM h a dx C mA ∧ (∀ f, RelO (fs.lookup f) (mA f)) ∧ PySem.Within mA (fs.map (·.1)) ∧ fs.length ≤ 1000 ∧ H dx = some (.own a) := by
  obtain ⟨d, z, ne, ob, mA, n, r, q⟩ := (show ObjOk P w H h a (.ins C dx fs) from hok a _ e)
  exact ⟨mA, ⟨ob, n, ne⟩, r, q, z, d⟩
end
structure Cls (K : PySem.W.Frag) (C : Addr) : Prop where
  pg : PySem.W.plainGet K C Str.empty = true
  hd : PySem.W.hasDictIn K C = true
  po : PySem.W.plainOver K C = true
  sa : PySem.W.findIn K (.ref C) "__setattr__" = some (some (.builtin "object.__setattr__"))
theorem Cls.get {K : PySem.W.Frag} {C : Addr} (c : Cls K C) (f : Str) : PySem.W.plainGet K C f = true := c.pg
section
variable {X : Cx} {pins : List (Addr × Obj)} {σ : St} {H : Hp} {s : Shared} {a C dx : Addr} {fs : List (Str × V)} {f : Str} {v : V} {A : Around} {E : Value → Shared → Prop}
end
section
variable {X : Cx} {o e value : Expr} {f : Str} {pos pos' tpos : Pos} {ta tv : TE}
end
section
variable {X : Cx} {pins : List (Addr × Obj)} {σ : St} {H : Hp} {s : Shared} {A : Around} {E : Value → Shared → Prop} {Q : Value → Shared → Prop} {c : Value} {b : Bool}
inductive TyOf (K : PySem.W.Frag) (H : Hp) : V → Value → Prop where
  | non : TyOf K H .non (.type "NoneType")
  | bl (x : Bool) : TyOf K H (.bl x) (.type "bool")
  | int (i : Int) : TyOf K H (.int i) (.type "int")
  | str (x : Str) : TyOf K H (.str x) (.type "str")
  | flt (x : UInt64) : TyOf K H (.flt x) (.type "float")
  | lst {a : Addr} {xs : List V} (e : H a = some (.lst xs)) : TyOf K H (.ref a) (.type "list")
  | frz {a : Addr} {o : Obj} {xs : List V} (e : H a = some (.frz o (.lst xs))) : TyOf K H (.ref a) (.type "list")
  | tup {a : Addr} {xs : List V} (e : H a = some (.tup xs)) : TyOf K H (.ref a) (.type "tuple")
  | dK {a : Addr} {kvs : List (Key × V)} (e : H a = some (.dK kvs)) : TyOf K H (.ref a) (.type "dict")
  | dT {a : Addr} {kvs : List (List Key × V)} (e : H a = some (.dT kvs)) : TyOf K H (.ref a) (.type "dict")
  | ins {a C dx : Addr} {fs : List (Str × V)} (e : H a = some (.ins C dx fs)) (cl : Cls K C) (ha : PySem.W.findIn K (.ref C) "__class__" = some (some (.builtin "object.__class__")))
      (hn : PySem.W.specialIn K (.builtin "object.__class__") "__get__" = some (some (.builtin "getset_descriptor.__get__"))) (htk : PySem.W.takesIn K (.builtin "object.__class__") = some true)
      (hm : PySem.W.mroIn K C (.type "object") = some true) : TyOf K H (.ref a) (.ref C)
theorem isinst_ok {x : V} {u t : Value} (I : Inv X pins σ H s) (rx : RelV x u) (ty : TyOf X.K H x t) (e : PySem.W.kitOne X.K t c = some b) (h : ∀ tk, Q (.bool b) { s with toks := tk }) :
    wpAny (model X.prog X.w) A (call (.builtin "isinstance") [u, c]) Q E s := by
  cases ty with
  | non => cases (show u = Value.none from rx); exact PySem.W.kia_one PySem.W.kitx_none I.kIn True.intro e (fun z => nomatch z) h
  | bl y => cases (show u = Value.bool y from rx); exact PySem.W.kia_one PySem.W.kitx_bool I.kIn True.intro e (fun z => nomatch z) h
  | int i => obtain ⟨t, q⟩ := (show ∃ t, u = Value.int i t from rx); cases q; exact PySem.W.kia_one PySem.W.kitx_int I.kIn True.intro e (fun z => nomatch z) h
  | str y => obtain ⟨t, q⟩ := (show ∃ t, u = Value.str y t from rx); cases q; exact PySem.W.kia_one PySem.W.kitx_str I.kIn True.intro e (fun z => nomatch z) h
  | flt y => obtain ⟨t, q⟩ := (show ∃ t, u = Value.float y t from rx); cases q; exact PySem.W.kia_one PySem.W.kitx_float I.kIn True.intro e (fun z => nomatch z) h
  | @lst a xs ea =>
    cases (show u = Value.ref a from rx)
    obtain ⟨_, _, n, _, h1⟩ := (show ObjOk X.prog X.w H s.heap a (.lst xs) from I.hok a _ ea)
    exact PySem.W.kia_one PySem.W.kitx_list I.kIn ⟨_, h1, rfl⟩ e (fun z => nomatch z) h
  | @frz a ob xs ea =>
    cases (show u = Value.ref a from rx)
    obtain ⟨_, _, _, n, _, h1⟩ := (show ObjOk X.prog X.w H s.heap a (.frz ob (.lst xs)) from I.hok a _ ea)
    exact PySem.W.kia_one PySem.W.kitx_list I.kIn ⟨_, h1, rfl⟩ e (fun z => nomatch z) h
  | @tup a xs ea =>
    cases (show u = Value.ref a from rx)
    obtain ⟨_, _, _, p⟩ := (show ObjOk X.prog X.w H s.heap a (.tup xs) from I.hok a _ ea)
    obtain ⟨o, h1, h2, _⟩ := p
    exact PySem.W.kia_one PySem.W.kitx_tuple I.kIn ⟨o, h1, h2⟩ e (fun z => nomatch z) h
  | @dK a kvs ea =>
    cases (show u = Value.ref a from rx)
    obtain ⟨_, _, vs, _, p⟩ := (show ObjOk X.prog X.w H s.heap a (.dK kvs) from I.hok a _ ea)
    obtain ⟨o, es, ep, h1, h2, _⟩ := p
    exact PySem.W.kia_one PySem.W.kitx_dict I.kIn ⟨o, h1, h2.1⟩ e (fun z => nomatch z) h
  | @dT a kvs ea =>
    cases (show u = Value.ref a from rx)
    obtain ⟨_, _, xs, _, o, es, ep, h1, h2, _⟩ := (show ObjOk X.prog X.w H s.heap a (.dT kvs) from I.hok a _ ea)
    exact PySem.W.kia_one PySem.W.kitx_dict I.kIn ⟨o, h1, h2.1⟩ e (fun z => nomatch z) h
  | @ins a C dx fs ea cl ha hn htk hm =>
    cases (show u = Value.ref a from rx)
    obtain ⟨mA, O, _⟩ := ins_get I.hok ea
    obtain ⟨od, J, _⟩ := O.look
    exact PySem.W.kia_one (PySem.W.kitx_own (cl.get _) cl.hd ha hn htk hm) I.kIn J e (fun z => nomatch z) h
end
end L2
namespace L2
open PySem PySem.Spec PyProof.Rows
structure Room (k : Nat) (A : Around) : Prop where
  hd : A.handled = none
  dp : A.depth + 3 * k + 5 < recursionLimit
  un : A.units + 16 * k + 200 < cLine
theorem Room.mono {j k : Nat} {A : Around} (r : Room k A) (h : j ≤ k) : Room j A := ⟨r.hd, by have := r.dp; omega, by have := r.un; omega⟩
theorem Room.deeper {k : Nat} {A : Around} (r : Room (k + 1) A) (env : Env) : Room k (A.deeper env) :=
  ⟨r.hd, by have := r.dp; show A.depth + 1 + 3 * k + 5 < _; omega, by have := r.un; show A.units + 3 + 16 * k + 200 < _; omega⟩
theorem Room.depth {k : Nat} {A : Around} (r : Room k A) : A.depth < recursionLimit := by have := r.dp; omega
def tNil : TA := fun _ H Q => Q [] H
def tCons (ta : TE) (tr : TA) : TA := fun σ H Q => ta σ H fun x H1 => tr σ H1 fun xs H2 => Q (x :: xs) H2
section
variable {X : Cx} {e : Expr} {es : List Expr} {te : TE} {t : TA} {pos : Pos}
theorem pa_nil : PA X [] tNil := fun _ _ _ _ H Q I h => Calls.spliced_nil ⟨[], H, I, .nil, h⟩
theorem pa_cons (ha : PE X e te) (hr : PA X es t) (hs : starEach (e :: es) X.env = (false, eval e X.env) :: starEach es X.env := by rfl) : PA X (e :: es) (tCons te t) := by
  intro pos pins s σ H Q I h
  rw [hs]
  show wpAny _ _ (spliced ((false, eval e X.env) :: backTo pos (starEach es X.env))) _ _ s
  refine Calls.spliced_cons (thn (ha pins s σ H _ I h) fun u s1 ⟨x, H1, I1, r1, q1⟩ => ?_)
  exact thn (hr pos pins s1 σ H1 _ I1 q1) fun us s2 ⟨xs, H2, I2, r2, q2⟩ => ⟨x :: xs, H2, I2, .cons r1 r2, q2⟩
def tTup (t : TA) : TE := fun σ H Q => t σ H fun xs H1 => xs.length ≤ sizeLine ∧ ∀ p, H1 p = none → Q (.ref p) (upd H1 p (.tup xs))
def tLst (t : TA) : TE := fun σ H Q => t σ H fun xs H1 => xs.length ≤ sizeLine ∧ ∀ p, H1 p = none → Q (.ref p) (upd H1 p (.lst xs))
theorem pe_tup {x1} (h : PA X es t) : PE X (.Tuple es x1 pos) (tTup t) := by
  intro pins s σ H Q I hq
  refine wpAny_Tuple_spliced (thn (h pos pins s σ H _ I hq) fun us s1 ⟨xs, H1, I1, r, z, q⟩ => ⟨by rw [← r.length]; exact z, ?_⟩)
  have hf : H1 s1.heap.objs.size = none := I1.hok.fresh (Nat.le_refl _)
  refine ⟨.ref s1.heap.objs.size, upd H1 s1.heap.objs.size (.tup xs), I1.laid (t' := s1.toks) (fun b u e => Heap.get?_push_of_some _ e) (Nat.le_refl _) ?_, rfl, q _ hf⟩
  exact ⟨z, us, r, ⟨_, Heap.get?_push_size _ rfl, rfl, _, rfl⟩⟩
theorem pe_lst (h : PA X es t) : PE X (.List es pos) (tLst t) := by
  intro pins s σ H Q I hq
  refine wpAny_List_spliced (thn (h pos pins s σ H _ I hq) fun us s1 ⟨xs, H1, I1, r, z, q⟩ => ⟨by rw [← r.length]; exact z, ?_⟩)
  have hf : H1 s1.heap.objs.size = none := I1.hok.fresh (Nat.le_refl _)
  refine ⟨.ref s1.heap.objs.size, upd H1 s1.heap.objs.size (.lst xs), I1.laid (t' := s1.toks) (fun b u e => Heap.get?_push_of_some _ e) (Nat.le_refl _) ?_, rfl, q _ hf⟩
  exact ⟨z, us, 0, r, Heap.get?_push_size _ rfl⟩
end
abbrev Sp := List V → Hp → VK → XK → Prop
abbrev CXT := List Env → Hp → Shared → XK → Value → Shared → Prop
structure Env0 (P : Program) (w : World) (K : PySem.W.Frag) (mg : Str → Option Value) (base : Heap) (A : Around) (outer : List Env) (s : Shared) (H : Hp) : Prop where
  frames : A.frames = some outer
  mod : Mod K mg base
  bs : ∀ b o, base.get? b = some o → s.heap.get? b = some o ∧ H b = none
  bsz : base.objs.size ≤ s.heap.objs.size
  funs : s.heap.FunFrames base outer
  frf : ∀ b ∈ frs outer, H b = none
  hok : HOk P w H s.heap
  bare : AllBare s.gens
def CE (outer : List Env) (P : Program) (w : World) (H : Hp) (s : Shared) (Q : VK) (u : Value) (s' : Shared) : Prop :=
  ∃ v H', s'.os = s.os ∧ AllBare s'.gens ∧ Un (frs outer) [] H H' s.heap s'.heap ∧ HOk P w H' s'.heap ∧ RelV v u ∧ Q v H'
def CR (CX : CXT) (outer : List Env) (P : Program) (w : World) (H : Hp) (s : Shared) (Q : VK) (E : XK) (r : Result) (s' : Shared) : Prop :=
  match r with
  | .ok (.ret u) => CE outer P w H s Q u s'
  | .ok _ => False
  | .error e => CX outer H s E e s'
structure FnOk (P : Program) (w : World) (K : PySem.W.Frag) (mg : Str → Option Value) (base : Heap) (CX : CXT) (k : Nat) (f : Addr) (fd : FuncData) (ps : List Str) (sp : Sp) : Prop where
  len : ∀ vs H Q E, sp vs H Q E → vs.length = ps.length
  run : ∀ (A : Around) (outer : List Env) (s : Shared) (H : Hp) (args : Args) (us : List Value) (vs : List V) (Q : VK) (E : XK), Room k A → Env0 P w K mg base A outer s H → BindsTo s fd args (ps.zip us) → Vals vs us → sp vs H Q E →
    codeAny (model P w) A (.call (.ref f) args) (CR CX outer P w H s Q E) s
theorem FnOk.imp {P : Program} {w : World} {K : PySem.W.Frag} {mg : Str → Option Value} {base : Heap} {CX : CXT} {k : Nat} {f : Addr} {fd : FuncData} {ps : List Str} {sp sp' : Sp} (F : FnOk P w K mg base CX k f fd ps sp)
    (h : ∀ vs H Q E, sp' vs H Q E → sp vs H Q E) : FnOk P w K mg base CX k f fd ps sp' :=
  ⟨fun vs H Q E q => F.len vs H Q E (h _ _ _ _ q), fun A outer s H args us vs Q E hr he hb hv hs => F.run A outer s H args us vs Q E hr he hb hv (h _ _ _ _ hs)⟩
section
variable {X : Cx} {pins : List (Addr × Obj)} {σ : St} {H : Hp} {s s' : Shared}
theorem Inv.env0 (I : Inv X pins σ H s) : Env0 X.prog X.w X.K X.mg X.base X.A X.stack s H :=
  ⟨I.ok.frames, I.ok.mod, I.bs, Nat.le_trans I.ok.bsz I.sz, I.stack, I.stkFree, I.hok, I.bare⟩
theorem Inv.after {Q : VK} {u : Value} (I : Inv X pins σ H s) (h : CE X.stack X.prog X.w H s Q u s') : EP X pins σ Q u s' := by
  obtain ⟨v, H', os, bare, un, hok, r, q⟩ := h
  obtain ⟨hh, g, d, t, os'⟩ := s'
  obtain rfl : os' = s.os := os
  exact ⟨v, H', I.call (h' := hh) (g' := g) (d' := d) (t' := t) (ch := []) un hok bare (fun b z => absurd z (by simp)), r, q⟩
end
def tCall (sp : Sp) (dvs : List V) (E : XK) (t : TA) : TE := fun σ H Q => t σ H fun vs H1 => sp (vs ++ dvs) H1 Q E
def Binds (K : PySem.W.Frag) (fd : FuncData) (ps : List Str) (ds : List Value) : Prop :=
  ∀ (s : Shared) (us : List Value), K.In s.heap → (us ++ ds).length = ps.length → BindsTo s fd ⟨us, []⟩ (ps.zip (us ++ ds))
theorem Binds.all {K : PySem.W.Frag} {fd : FuncData} {ps : List Str} (h : ∀ us : List Value, us.length = ps.length → bindArgs fd ⟨us, []⟩ = pure (ps.zip us)) : Binds K fd ps [] := fun s us _ hl => by
  rw [List.append_nil] at hl ⊢
  exact .of_eq (h us hl)
def Passes (CX : CXT) (X : Cx) (E : XK) : Prop := ∀ (pins : List (Addr × Obj)) (σ : St) (H : Hp) (s : Shared) (e : Value) (s' : Shared), Inv X pins σ H s → CX X.stack H s E e s' → X.xe e s'
section
variable {X : Cx} {CX : CXT} {k : Nat} {f C : Addr} {fd : FuncData} {ps : List Str} {sp : Sp} {dvs : List V} {ds : List Value} {E : XK} {x m : Str} {p pos apos : Pos} {e o : Expr} {es : List Expr} {ta : TE} {t : TA}
theorem run_fn {pins : List (Addr × Obj)} {σ : St} {H : Hp} {s : Shared} {Q : VK} {us : List Value} {vs : List V} (F : FnOk X.prog X.w X.K X.mg X.base CX k f fd ps sp) (hr : Room k X.A) (hb : Binds X.K fd ps ds) (hd : Vals dvs ds) (hx : Passes CX X E)
    (I : Inv X pins σ H s) (r : Vals vs us) (h : sp (vs ++ dvs) H Q E) : wpAny (model X.prog X.w) X.A (call (.ref f) us) (EP X pins σ Q) X.xe s := by
  have r2 : Vals (vs ++ dvs) (us ++ ds) := r.append hd
  have hl : (us ++ ds).length = ps.length := by rw [← r2.length]; exact F.len _ _ _ _ h
  refine wpAny_call (codeAny_mono (F.run X.A X.stack s H ⟨us, []⟩ (us ++ ds) (vs ++ dvs) Q E hr I.env0 (hb s us I.kIn hl) r2 h) fun r s' hq => ?_)
  cases r with
  | error e => exact hx pins σ H s e s' I hq
  | ok fl =>
    cases fl with
    | ret u => exact I.after hq
    | next => exact False.elim hq
    | brk => exact False.elim hq
    | cont => exact False.elim hq
theorem pe_call (F : FnOk X.prog X.w X.K X.mg X.base CX k f fd ps sp) (hr : Room k X.A) (hg : Gl X x) (hm : X.mg x = some (.ref f)) (hk : PySem.W.keepIn X.K (.ref f) = true) (hb : Binds X.K fd ps ds) (hd : Vals dvs ds) (hx : Passes CX X E)
    (ha : PA X (e :: es) t) (hdb : (x == ("__debug__" : Str)) = false := by decide) (he : starEach (e :: es) X.env = (false, eval e X.env) :: starEach es X.env := by rfl) (hpl : (backTo pos (starEach es X.env)).any (·.1) = false := by rfl) :
    PE X (.Call (.Name x p) (e :: es) [] pos) (tCall sp dvs E t) := by
  intro pins s σ H Q I h
  refine wpAny_Call_Name_kw (ld_glob I hg hm ?_ hdb)
  refine PySem.W.callWith_K (h₀ := X.base) I.ok.mod.kin hk (thn (ha pos pins s σ H _ I h) fun us s1 ⟨vs, H1, I1, r, q⟩ => ⟨I1.kIn, ?_⟩) he hpl
  exact run_fn F hr hb hd hx I1 r q
end
section
variable {X : Cx} {CX : CXT} {k : Nat} {f C : Addr} {fd : FuncData} {ps ks : List Str} {sp : Sp} {E : XK} {x m : Str} {p pos apos kpos : Pos} {e o : Expr} {es : List Expr} {kws : List Keyword} {te ta : TE} {t tk : TA} {nm : Option Str}
variable {g : List Value → List Value → List Value} {gV : List V → List V → List V}
end
structure FnScope (N P : List Str) (sc : Scope) : Prop where
  kind : sc.kind = .function
  co : sc.isCoroutine = false
  gen : sc.isGenerator = false
  nd : N.Nodup
  pre : N.take P.length = P
  par : ∀ x ∈ P, sc.names.lookup x = some .local ∨ sc.names.lookup x = some .cell
  nofree : ∀ y ∈ sc.names, y.2 ≠ .free
theorem bindL_out {kindOf : Str → Option NameKind} {x : Str} : ∀ {binds : List (Str × Value)} {m : Str → Option Value}, (∀ v, (x, v) ∉ binds) → bindL kindOf binds m x = m x
  | [], _, _ => rfl
  | (n, v) :: r, m, h => by
    unfold bindL
    rw [bindL_out fun w hw => h w (List.mem_cons_of_mem _ hw)]
    split
    · have : x ≠ n := by rintro rfl; exact h v List.mem_cons_self
      simp [this]
    · rfl
theorem bindC_out {kindOf : Str → Option NameKind} {x : Str} : ∀ {binds : List (Str × Value)} {m : Str → Option Value}, (∀ v, (x, v) ∉ binds) → bindC kindOf binds m x = m x
  | [], _, _ => rfl
  | (n, v) :: r, m, h => by
    unfold bindC
    rw [bindC_out fun w hw => h w (List.mem_cons_of_mem _ hw)]
    split
    · rfl
    · have : x ≠ n := by rintro rfl; exact h v List.mem_cons_self
      simp [this]
theorem bindL_get {kindOf : Str → Option NameKind} {x : Str} {v : Value} : ∀ {P : List Str} {vs : List Value} {i : Nat} {m : Str → Option Value}, P.Nodup → P[i]? = some x → vs[i]? = some v → kindOf x = some .local →
    bindL kindOf (P.zip vs) m x = some v
  | [], _, _, _, _, h, _, _ => by simp at h
  | _ :: _, [], _, _, _, _, h, _ => by simp at h
  | p :: P, w :: vs, 0, m, nd, h1, h2, hk => by
    simp at h1 h2; subst h1; subst h2
    show bindL kindOf ((p, w) :: P.zip vs) m p = _
    unfold bindL
    rw [bindL_out fun v hv => (List.nodup_cons.mp nd).1 (List.of_mem_zip hv).1, if_pos hk]
    simp
  | p :: P, w :: vs, i + 1, m, nd, h1, h2, hk => by
    show bindL kindOf ((p, w) :: P.zip vs) m x = _
    unfold bindL
    exact bindL_get (i := i) (List.nodup_cons.mp nd).2 (by simpa using h1) (by simpa using h2) hk
theorem bindC_get {kindOf : Str → Option NameKind} {x : Str} {v : Value} : ∀ {P : List Str} {vs : List Value} {i : Nat} {m : Str → Option Value}, P.Nodup → P[i]? = some x → vs[i]? = some v → kindOf x ≠ some .local →
    bindC kindOf (P.zip vs) m x = some v
  | [], _, _, _, _, h, _, _ => by simp at h
  | _ :: _, [], _, _, _, _, h, _ => by simp at h
  | p :: P, w :: vs, 0, m, nd, h1, h2, hk => by
    simp at h1 h2; subst h1; subst h2
    show bindC kindOf ((p, w) :: P.zip vs) m p = _
    unfold bindC
    rw [bindC_out fun v hv => (List.nodup_cons.mp nd).1 (List.of_mem_zip hv).1, if_neg hk]
    simp
  | p :: P, w :: vs, i + 1, m, nd, h1, h2, hk => by
    show bindC kindOf ((p, w) :: P.zip vs) m x = _
    unfold bindC
    exact bindC_get (i := i) (List.nodup_cons.mp nd).2 (by simpa using h1) (by simpa using h2) hk
def start (N : List Str) (vs : List V) : St := vs.map some ++ List.replicate (N.length - vs.length) none
def cxOf (CX : CXT) (P : Program) (w : World) (K : PySem.W.Frag) (mg : Str → Option Value) (base : Heap) (N : List Str) (qual : Str) (scope : Scope) (f : Addr) (cd : Value) (A : Around) (outer : List Env) (s : Shared) (H : Hp) (E : XK) : Cx where
  prog := P
  w := w
  K := K
  mg := mg
  base := base
  A := A.deeper (envOfC qual scope s.heap.objs.size f cd)
  N := N
  s₀ := s
  H₀ := H
  env := envOfC qual scope s.heap.objs.size f cd
  outer := outer
  stack := envOfC qual scope s.heap.objs.size f cd :: outer
  ex := []
  calm := true
  fn := fun _ => true
  pn := []
  xe := fun e s' => wpAny (model P w) (A.deeper (envOfC qual scope s.heap.objs.size f cd)) (leaving (envOfC qual scope s.heap.objs.size f cd) e) (fun _ s'' => CX outer H s E e s'') (fun e' s'' => CX outer H s E e' s'') s'
theorem cell_has {sc : Scope} {n : Nat} {x : Str} (h : sc.names.lookup x = some .cell) : ∃ c, (cellsFrom n sc.names []).lookup x = some c := by
  have q := PySem.W.cellsFrom_some sc.names n [] (.inl h)
  exact Option.isSome_iff_exists.mp q
theorem inv_start {CX : CXT} {P : Program} {w : World} {K : PySem.W.Frag} {mg : Str → Option Value} {base : Heap} {N ps : List Str} {qual : Str} {scope : Scope} {f : Addr} {cd : Value} {A : Around} {outer : List Env} {s s1 : Shared} {H : Hp} {E : XK} {us : List Value} {vs : List V}
    (S : FnScope N ps scope) (hd : A.handled = none) (e0 : Env0 P w K mg base A outer s H) (hl : vs.length = ps.length) (r : Vals vs us)
    (x : InCallC s s.heap.objs.size (bindL (envOfC qual scope s.heap.objs.size f cd).kindOf (ps.zip us) fun _ => none) (cellsFrom (s.heap.objs.size + 1) scope.names []) (bindC (envOfC qual scope s.heap.objs.size f cd).kindOf (ps.zip us) fun _ => none) s1) :
    Inv (cxOf CX P w K mg base N qual scope f cd A outer s H E) [] (start N vs) H s1 := by
  have hpl : ps.length ≤ N.length := by have := congrArg List.length S.pre; rw [List.length_take] at this; omega
  obtain ⟨h1, tk, rfl, hk⟩ := x.done
  have noA : ∀ b : Addr, b ∉ (cxOf CX P w K mg base N qual scope f cd A outer s H E).ex := fun b z => absurd (show b ∈ ([] : List Addr) from z) (by simp)
  refine ⟨⟨e0.mod, S.kind, rfl, rfl, Nat.le_refl _, fun y z c h1 h2 => ?_, fun y hy => ?_, fun y c _ h => ?_, fun _ => hd, Around.frames_deeper e0.frames, .inr ⟨rfl, rfl⟩, fun b z => absurd z (noA b), e0.bs, e0.bsz, fun b _ _ => noA b, fun b z => absurd z (noA b), e0.funs, e0.frf⟩,
    rfl, e0.bare, Un.kept hk, ⟨_, x.toInCall.ns, fun i y v h1 h2 h3 => ?_⟩, fun y c h => ⟨_, x.cell y c h⟩, e0.hok.fresh (Nat.le_refl _), fun y c h => ?_, fun p hp => absurd (show p ∈ ([] : List (Addr × Obj)) from hp) (by simp), e0.hok.kept hk, ?_⟩
  · exact name_of_addr x.apart (PySem.mem_of_lookup h1) (PySem.mem_of_lookup h2)
  · have hy : scope.names.lookup y = some .cell ∨ scope.names.lookup y = some .free := hy
    rcases hy with hy | hy
    · exact cell_has hy
    · exact absurd rfl (S.nofree _ (PySem.mem_of_lookup hy))
  · exact Nat.le_of_lt (x.above y c (PySem.mem_of_lookup h))
  · have hi : i < vs.length := by
      unfold start at h2
      by_cases hi : i < vs.length
      · exact hi
      · rw [List.getElem?_append_right (by simpa using hi)] at h2
        rw [List.getElem?_replicate] at h2
        split at h2 <;> cases h2
    have ha : vs[i]? = some v := by
      unfold start at h2
      rw [List.getElem?_append_left (by simpa using hi), List.getElem?_map] at h2
      cases e : vs[i]? with
      | none => rw [e] at h2; cases h2
      | some a => rw [e] at h2; cases h2; rfl
    obtain ⟨u, hu, rv⟩ := r.get ha
    have hp : ps[i]? = some y := by
      rw [← S.pre, List.getElem?_take_of_lt (by omega)]; exact h1
    have ndP : ps.Nodup := by rw [← S.pre]; exact S.nd.sublist (List.take_sublist _ _)
    refine ⟨u, rv, ?_⟩
    rcases S.par y (List.mem_of_getElem? hp) with k | k
    · exact .inl ⟨k, bindL_get ndP hp hu k⟩
    · obtain ⟨c, e⟩ := cell_has (n := s.heap.objs.size + 1) k
      refine .inr ⟨.inl k, c, e, ?_⟩
      have q := x.cell y c e
      rw [bindC_get ndP hp hu (by show scope.names.lookup y ≠ _; rw [k]; decide)] at q
      exact q
  · exact e0.hok.fresh (Nat.le_of_lt (x.above y c (PySem.mem_of_lookup h)))
  · unfold start
    show _ = N.length
    rw [List.length_append, List.length_map, List.length_replicate]
    omega
theorem fn_of {CX : CXT} {P : Program} {w : World} {K : PySem.W.Frag} {mg : Str → Option Value} {base : Heap} {k : Nat} {f : Addr} {name qual : Str} {params : Arguments} {body : List Stmt} {scope : Scope} {dV kV doc pm cdv ct oc : Value} {an od : Option Addr}
    {osl : Array (Option Value)} {N ps : List Str} {sp : Sp} (lk : K.lookup f = some ⟨oc, od, .func (PySem.W.fnOf name qual params body scope dV kV doc pm an cdv ct), osl⟩) (hcd : PySem.W.codeIn K cdv qual = true) (S : FnScope N ps scope)
    (len : ∀ vs H Q E, sp vs H Q E → vs.length = ps.length)
    (hbody : ∀ (A : Around) (outer : List Env) (s : Shared) (H : Hp) (vs : List V) (Q : VK) (E : XK), Room k (A.deeper (envOfC qual scope s.heap.objs.size f cdv)) → sp vs H Q E →
      ∃ t, PSs (cxOf CX P w K mg base N qual scope f cdv A outer s H E) body t ∧ t { nx := fun _ H' => Q .non H', rt := Q } (start N vs) H) :
    FnOk P w K mg base CX (k + 1) f (PySem.W.fnOf name qual params body scope dV kV doc pm an cdv ct) ps sp := by
  refine ⟨len, fun A outer s H args us vs Q E hr e0 hb r hsp => ?_⟩
  have hl := len _ _ _ _ hsp
  have KX : K.In s.heap := e0.mod.kin.keeps fun b o e => (e0.bs b o e).1
  have lim : s.heap.NoLimit := e0.mod.nolimit.keeps fun b o e => (e0.bs b o e).1
  have hkind : ∀ y ∈ ps.zip us, scope.names.lookup y.1 = some .local ∨ (scope.names.lookup y.1 = some .cell ∧ ((cellsFrom (s.heap.objs.size + 1) scope.names []).lookup y.1).isSome = true) := fun ⟨n, v⟩ hy => by
    rcases S.par n (List.of_mem_zip hy).1 with q | q
    · exact .inl q
    · exact .inr ⟨q, PySem.W.cellsFrom_some _ _ _ (.inl q)⟩
  refine codeAny_call_function hr.depth (KX _ _ lk) rfl S.co S.gen rfl (PySem.W.codeRec_of KX hcd) (hb _ _ _ _ ?_)
  refine wpAny_newFunctionEnv_cells S.kind hkind fun env he s1 x => ?_
  subst he
  refine ⟨lim.keeps x.toInCall.keep, codeAny_func ?_⟩
  obtain ⟨t, ht, hq⟩ := hbody A outer s H vs Q E (hr.deeper _) hsp
  have I : Inv (cxOf CX P w K mg base N qual scope f cdv A outer s H E) [] (start N vs) H s1 := inv_start S hr.hd e0 hl r x
  refine wpAny_mono (ht [] s1 (start N vs) H _ I hq) (fun fl s' hs => ?_) fun e s' hs => hs
  have fin : ∀ {σ' : St} {H' : Hp} {v : V} {u : Value}, Inv (cxOf CX P w K mg base N qual scope f cdv A outer s H E) [] σ' H' s' → RelV v u → Q v H' → CE outer P w H s Q u s' :=
    fun {σ' H' v u} J rv q => ⟨v, H', J.os, J.bare, J.base, J.hok, rv, q⟩
  cases fl with
  | ret u =>
    obtain ⟨v, σ', H', J, rv, q⟩ := hs
    exact fin J rv q
  | next =>
    obtain ⟨σ', H', J, q⟩ := hs
    exact fin (v := V.non) (u := Value.none) J rfl q
  | brk =>
    obtain ⟨_, _, _, q⟩ := hs
    exact False.elim q
  | cont =>
    obtain ⟨_, _, _, q⟩ := hs
    exact False.elim q
end L2
namespace L2
open PySem PySem.Spec PyProof.Rows
section
variable {X : Cx} {x : Str} {p pos : Pos} {e : Expr} {es : List Expr} {t : TA} {id T : String} {r : List V → Hp → VK → Prop}
def tCB (r : List V → Hp → VK → Prop) (t : TA) : TE := fun σ H Q => t σ H fun vs H1 => r vs H1 Q
theorem pe_callB (hc : CallR X (.builtin id) r) (hg : Gl X x) (hm : X.mg x = none) (hv : bootBuiltins x = some (.builtin id)) (ha : PA X (e :: es) t) (hn : x ≠ "__name__" := by decide) (hdb : (x == ("__debug__" : Str)) = false := by decide)
    (he : starEach (e :: es) X.env = (false, eval e X.env) :: starEach es X.env := by rfl) (hpl : (backTo pos (starEach es X.env)).any (·.1) = false := by rfl) : PE X (.Call (.Name x p) (e :: es) [] pos) (tCB r t) := by
  intro pins s σ H Q I h
  refine wpAny_Call_Name_kw (ld_blt I hg hm hv ?_ hn hdb)
  exact PyProof.Rows.callWith_builtin1 (thn (ha pos pins s σ H _ I h) fun us s1 ⟨vs, H1, I1, r1, q1⟩ => hc pins s1 σ H1 vs us Q I1 r1 q1) he hpl
end
end L2
namespace HT
open PySem PyProof.Rows
section
open PySem.SeqAt
open PySem.AutoSeq1 (wpAny_loadPart')
open PySem.MeetsSeq PySem.MeetsSeq2 PySem.MeetsSeq3
end
section
variable {prog : Program} {w : World} {A : Around} {E : Value → Shared → Prop} {s : Shared}
end
end HT
namespace L2
open PySem PySem.Spec PyProof.Rows
section
variable {X : Cx} {e : Expr} {te : TE} {lo hi : Option Expr} {tl th : TO} {pos p2 : Pos}
end
end L2
namespace L2
open PySem PySem.Spec PyProof.Rows
def ixN (n : Nat) (i : Int) : Option Nat := if 0 ≤ i then (if i < n then some i.toNat else none) else if -(n : Int) ≤ i then some (i + n).toNat else none
def atI {α : Type} (xs : List α) (i : Int) : Option α := (ixN xs.length i).bind fun j => xs[j]?
theorem ixN_seq {n : Nat} {i : Int} {j : Nat} (h : ixN n i = some j) : seqIndex? i n = some j ∧ j < n ∧ -(n : Int) ≤ i ∧ i < n := by
  unfold ixN at h
  by_cases h0 : 0 ≤ i
  · rw [if_pos h0] at h
    by_cases h1 : i < n
    · rw [if_pos h1] at h
      have e : i.toNat = j := Option.some.inj h
      exact ⟨by rw [seqIndex_of h0 h1, e], by omega, by omega, h1⟩
    · rw [if_neg h1] at h; cases h
  · rw [if_neg h0] at h
    by_cases h1 : -(n : Int) ≤ i
    · rw [if_pos h1] at h
      have e : (i + n).toNat = j := Option.some.inj h
      exact ⟨by rw [seqIndex_neg (by omega) h1, e], by omega, h1, by omega⟩
    · rw [if_neg h1] at h; cases h
theorem atI_get {α : Type} {xs : List α} {i : Int} {v : α} (h : atI xs i = some v) : ∃ j, seqIndex? i xs.length = some j ∧ xs[j]? = some v ∧ j < xs.length ∧ -(xs.length : Int) ≤ i ∧ i < xs.length := by
  unfold atI at h
  cases e : ixN xs.length i with
  | none => rw [e] at h; cases h
  | some j =>
    rw [e] at h
    obtain ⟨h1, h2, h3, h4⟩ := ixN_seq e
    exact ⟨j, h1, h, h2, h3, h4⟩
theorem atI_nat {α : Type} {xs : List α} {j : Nat} {v : α} (h : xs[j]? = some v) : atI xs (j : Int) = some v := by
  have hj : j < xs.length := (List.getElem?_eq_some_iff.mp h).1
  have e : ixN xs.length (j : Int) = some j := by
    unfold ixN
    rw [if_pos (by omega), if_pos (by omega)]; simp
  unfold atI; rw [e]; exact h
def PlainIx (b : Expr) : Prop := ∀ o i, subscripted b false o i = operate [o, i] (getItem o i)
def IxR (X : Cx) (r : R2) : Prop :=
  ∀ (value slice : Expr) (pins : List (Addr × Obj)) (s : Shared) (σ : St) (H : Hp) (x y : V) (v u : Value) (Q : VK), Inv X pins σ H s → RelV x v → RelV y u → r x y H Q →
    subscripted slice false v u = operate [v, u] (getItem v u) → wpAny (model X.prog X.w) X.A (subscriptTail value slice v u) (EP X pins σ Q) X.xe s
def MtR (X : Cx) (id : String) (r : V → List V → Hp → VK → Prop) : Prop :=
  ∀ (pins : List (Addr × Obj)) (s : Shared) (σ : St) (H : Hp) (x : V) (xs : List V) (v : Value) (us : List Value) (Q : VK), Inv X pins σ H s → RelV x v → Vals xs us → r x xs H Q →
    wpAny (model X.prog X.w) X.A (call (.builtin id) (v :: us)) (EP X pins σ Q) X.xe s
section
variable {X : Cx} {a b : Expr} {ta tb : TE} {pos : Pos}
theorem pe_ix {r : R2} (hr : IxR X r) (ha : PE X a ta) (hb : PE X b tb) (hs : PlainIx b) : PE X (.Subscript a b pos) (tOp r ta tb) := by
  intro pins s σ H Q I h
  exact Subscript_ (binT ha hb I h fun v u s2 x y H2 I2 rx ry q => hr a b pins s2 σ H2 x y v u Q I2 rx ry q (hs _ _))
def rIxL (K : PySem.W.Frag) : R2 := fun x y H Q => ∃ p xs i v, x = .ref p ∧ y = .int i ∧ SqL K H p xs ∧ atI xs i = some v ∧ Q v H
def rIxT (K : PySem.W.Frag) : R2 := fun x y H Q => ∃ p xs i v, x = .ref p ∧ y = .int i ∧ SqT K H p xs ∧ atI xs i = some v ∧ Q v H
theorem ix_list : IxR X (rIxL X.K) := by
  intro value slice pins s σ H x y v u Q I rx ry h hs
  obtain ⟨p, xs, i, z, rfl, rfl, hq, he, q⟩ := h
  cases rx
  obtain ⟨t, rfl⟩ := ry
  obtain ⟨its, r, pl, hz⟩ := I.list hq
  obtain ⟨j, h1, h2, h3, h4, h5⟩ := atI_get he
  obtain ⟨w, ew, rw'⟩ := r.get h2
  have hl := r.length
  have hn := line63
  have fin : EP X pins σ Q w s := ⟨z, H, I, rw', q⟩
  by_cases h0 : 0 ≤ i
  · have hj : i.toNat = j := by
      rw [seqIndex_of h0 h5] at h1
      exact Option.some.inj h1
    exact item_listR pl.isList h0 (by omega) (by rw [hj]; simpa using ew) fin hs
  · have hj : (i + (its.toArray.size : Int)).toNat = j := by
      rw [seqIndex_neg (by omega) h4] at h1
      rw [List.size_toArray, ← hl]
      exact Option.some.inj h1
    exact subscriptTail_builtinR (x := w) pl.isList.typeIs slot_list_getitem.lookup
      (wpAny_getItem_list_neg (Q := fun r s' => r = w ∧ EP X pins σ Q r s') pl.isList (by omega) (by rw [List.size_toArray] <;> omega) (by omega) (by rw [hj]; simpa using ew) ⟨rfl, fin⟩) hs
theorem ix_tup : IxR X (rIxT X.K) := by
  intro value slice pins s σ H x y v u Q I rx ry h hs
  obtain ⟨p, xs, i, z, rfl, rfl, hq, he, q⟩ := h
  cases rx
  obtain ⟨t, rfl⟩ := ry
  obtain ⟨its, r, pl, hz⟩ := I.tuple hq
  obtain ⟨j, h1, h2, h3, h4, h5⟩ := atI_get he
  obtain ⟨w, ew, rw'⟩ := r.get h2
  have hl := r.length
  have hn := line63
  have fin : EP X pins σ Q w s := ⟨z, H, I, rw', q⟩
  exact subscriptTail_builtinR (x := w) pl.typeIs slot_tuple_getitem.lookup
    (getItem_tuple (j := j) (Q := fun r s' => r = w ∧ EP X pins σ Q r s') pl (by omega) (by omega) (by rw [List.size_toArray, ← hl]; exact h1) (by simpa using ew) ⟨rfl, fin⟩) hs
theorem mapSeq_set (its : List Value) (n j : Nat) (u : Value) : Obj.mapSeq (·.setIfInBounds j u) { cls := .type "list", data := .seq its.toArray n } = { cls := .type "list", data := .seq (its.set j u).toArray n } := by
  simp [Obj.mapSeq]
theorem Inv.lst {pins : List (Addr × Obj)} {σ : St} {H : Hp} {s : Shared} {p : Addr} {xs : List V} (I : Inv X pins σ H s) (h : H p = some (.lst xs)) :
    ∃ (its : List Value) (n : Nat), Vals xs its ∧ s.heap.get? p = some { cls := .type "list", data := .seq its.toArray n } ∧ xs.length ≤ sizeLine := by
  obtain ⟨z, its, n, r, e⟩ := I.hok p _ h
  exact ⟨its, n, r, e, z⟩
theorem Inv.lstUpd {pins : List (Addr × Obj)} {σ : St} {H : Hp} {s : Shared} {p : Addr} {xs ys : List V} {its its' : List Value} {n n' : Nat} {f : Obj → Obj} (I : Inv X pins σ H s) (h : H p = some (.lst xs))
    (ho : s.heap.get? p = some { cls := .type "list", data := .seq its.toArray n }) (hf : f { cls := .type "list", data := .seq its.toArray n } = { cls := .type "list", data := .seq its'.toArray n' }) (r : Vals ys its') (hz : ys.length ≤ sizeLine) (t : Nat) :
    Inv X pins σ (upd H p (.lst ys)) { s with heap := s.heap.update p f, toks := t } := by
  have e : (s.heap.update p f).get? p = some { cls := .type "list", data := .seq its'.toArray n' } := by
    rw [Heap.get?_update_self f ho (by rw [hf] <;> rfl), hf]
  refine I.write (x := p) (e := p) (by rw [h]; trivial) (.inl rfl) (fun b u hb q => (Heap.get?_update_other _ _ (Ne.symm hb)).trans q) ⟨_, e⟩ ?_
  exact ⟨hz, its', n', r, e⟩
def rSetL : V → V → V → Hp → (Hp → Prop) → Prop := fun o i v H Q => ∃ p xs k j, o = .ref p ∧ i = .int k ∧ H p = some (.lst xs) ∧ ixN xs.length k = some j ∧ Q (upd H p (.lst (xs.set j v)))
theorem set_list : PSet X rSetL := by
  intro pins s σ H o i v ov iv u Q I ro ri rv h
  obtain ⟨p, xs, k, j, rfl, rfl, hp, hj, q⟩ := h
  cases ro
  obtain ⟨t, rfl⟩ := ri
  obtain ⟨its, n, r, ho, hz⟩ := I.lst hp
  obtain ⟨h1, h2, h3, h4⟩ := ixN_seq hj
  have hl := r.length
  have hn := line63
  have I' : Inv X pins σ (upd H p (.lst (xs.set j v))) { s with heap := s.heap.update p (Obj.mapSeq (·.setIfInBounds j u)) } :=
    I.lstUpd hp ho (mapSeq_set its n j u) (r.set rv j) (by rw [List.length_set]; exact hz) s.toks
  by_cases h0 : 0 ≤ k
  · have hk : k.toNat = j := by
      rw [seqIndex_of h0 h4] at h1
      exact Option.some.inj h1
    exact PySem.W.ki_setAt ho h0 (by omega) (by rw [List.size_toArray, ← hl]; exact h4) (by rw [hk]; exact ⟨_, I', q⟩)
  · have hk : (k + (its.toArray.size : Int)).toNat = j := by
      rw [seqIndex_neg (by omega) h3] at h1
      rw [List.size_toArray, ← hl]
      exact Option.some.inj h1
    exact PySem.W.ki_setBack ho (by omega) (by rw [List.size_toArray, ← hl]; exact h3) (by omega) (by rw [hk]; exact ⟨_, I', q⟩)
def tyV (K : PySem.W.Frag) (T : String) (x : V) (H : Hp) : Prop := match x with
  | .str _ => T = "str"
  | .int _ => T = "int"
  | .ref p => (T = "list" ∧ ∃ xs, SqL K H p xs) ∨ (T = "tuple" ∧ ∃ o, K.lookup p = some o ∧ o.cls = .type "tuple" ∧ o.dict = none) ∨
      (T = "dict" ∧ ((∃ kvs, H p = some (.dK kvs)) ∨ ∃ kvs, H p = some (.dT kvs))) ∨ (T = "set" ∧ ∃ S n, H p = some (.set S n))
  | _ => False
theorem tyV_is {pins : List (Addr × Obj)} {σ : St} {H : Hp} {s : Shared} {T : String} {x : V} {v : Value} (I : Inv X pins σ H s) (r : RelV x v) (ty : tyV X.K T x H) :
    s.TypeIs v T ∧ ∀ a, v = .ref a → ∃ ob, s.heap.get? a = some ob ∧ ob.dict = none := by
  cases x with
  | str z =>
    obtain ⟨t, rfl⟩ := r
    cases (show T = "str" from ty)
    exact ⟨typeIs_str s z t, fun _ e => nomatch e⟩
  | int i =>
    obtain ⟨t, rfl⟩ := r
    cases (show T = "int" from ty)
    exact ⟨typeIs_int s i t, fun _ e => nomatch e⟩
  | ref p =>
    cases r
    rcases ty with ⟨rfl, xs, hq⟩ | ⟨rfl, o, hk, hc, hd⟩ | ⟨rfl, hk⟩ | ⟨rfl, S, n, hk⟩
    · obtain ⟨its, _, pl, _⟩ := I.list hq
      refine ⟨pl.isList.typeIs, fun a e => ?_⟩
      cases e
      obtain ⟨o, n, e, c, hd, _⟩ := pl
      exact ⟨o, e, hd⟩
    · refine ⟨⟨o, I.kIn p o hk, hc⟩, fun a e => ?_⟩
      cases e
      exact ⟨o, I.kIn _ o hk, hd⟩
    · have z : ∃ o, s.heap.get? p = some o ∧ o.ExactDict := by
        rcases hk with ⟨kvs, hk⟩ | ⟨kvs, hk⟩
        · obtain ⟨_, _, _, _, o, _, _, e, ex, _⟩ := I.hok p _ hk
          exact ⟨o, e, ex⟩
        · obtain ⟨_, _, _, _, o, _, _, e, ex, _⟩ := I.hok p _ hk
          exact ⟨o, e, ex⟩
      obtain ⟨o, e, ex⟩ := z
      refine ⟨⟨o, e, ex.1⟩, fun a e2 => ?_⟩
      cases e2
      exact ⟨o, e, ex.2.1⟩
    · obtain ⟨o, _, _, _, e, ex, _⟩ := I.hok p _ hk
      refine ⟨⟨o, e, ex.1⟩, fun a e2 => ?_⟩
      cases e2
      exact ⟨o, e, ex.2.1⟩
  | _ => exact False.elim ty
def tBM0 (K : PySem.W.Frag) (T : String) (r : V → List V → Hp → VK → Prop) (to : TE) : TE := fun σ H Q => to σ H fun x H1 => tyV K T x H1 ∧ r x [] H1 Q
variable {o e : Expr} {es : List Expr} {to : TE} {t : TA} {name : Str} {apos cpos : Pos} {T id : String} {r : V → List V → Hp → VK → Prop}
theorem pe_bm0 (pa : PlainAttrs T) (slot : Slot T name id) (hty : typeOf (.builtin id) = pure (.type "method_descriptor")) (hm : MtR X id r) (ho : PE X o to)
    (hbase : attributeBase o name X.env (eval o X.env) = eval o X.env := by rfl) (hline : (apos.endLine == cpos.line) = true := by rfl) : PE X (.Call (.Attribute o name apos) [] [] cpos) (tBM0 X.K T r to) := by
  intro pins s σ H Q I h
  refine wpAny_Call_method0_late hbase hline (thn (ho pins s σ H _ I h) fun v s1 ⟨x, H1, I1, r1, ty, q1⟩ => ?_)
  obtain ⟨h1, h2⟩ := tyV_is I1 r1 ty
  exact ⟨T, id, pa, slot, hty, h1, h2, Calls.callWith_builtin rfl (PySem.evalArgs_none (hm pins s1 σ H1 x [] v [] Q I1 r1 .nil q1))⟩
end
end L2
namespace L2
open PySem PySem.Spec PyProof.Rows
section
variable {X : Cx} {pins : List (Addr × Obj)} {σ : St} {H : Hp} {s : Shared} {l b : Addr} {xs ys zs : List V}
end
section
variable {X : Cx}
end
section
variable {prog : Program} {w : World} {A : Around} {E : Value → Shared → Prop} {s : Shared}
end
section
variable {X : Cx}
end
end L2
namespace Att
open PySem PySem.W PySem.Calls PyProof.Rows
theorem ints_of_wellAll {P : Params} {h : Heap} : ∀ (ns : List Int) (vs : List Value), WellAll P h vs (ns.map WData.int) → IntsAre vs ns := by
  intro ns
  induction ns with
  | nil =>
    intro vs w
    rw [List.map_nil] at w
    cases w
    exact .nil
  | cons n ns ih =>
    intro vs w
    rw [List.map_cons] at w
    cases w with
    | cons a b =>
      cases a
      exact .cons _ _ (ih _ b)
theorem script_of {l : OpenLaw} {n : Nat} (hn : l.most = some n) {P : Params} {h : Heap} {args : List WData} {vals : List Value}
    (hpre : l.row.toRowW.claim.pre args = true) (hwl : WellAll P h vals args) :
    ∃ a vs ns, vals = [Value.ref a] ∧ args = [WData.list (ns.map WData.int)] ∧ h.get? a = some { cls := .type "list", data := .seq vs.toArray } ∧ IntsAre vs ns ∧ ns.length ≤ n := by
  have hsh : WShape.hasAll [] args [.list .int] = true := (pre_splitW hpre).1
  have hc : l.pre.holds [] { args := args } = true := (pre_splitW hpre).2
  obtain ⟨d, r, rfl, h1, h2⟩ := hasAllW_cons hsh
  obtain rfl := hasAllW_nil h2
  obtain ⟨xs, rfl, h3⟩ := hasW_list h1
  obtain ⟨ns, rfl⟩ := items_int h3
  have hlen : ns.length ≤ n := by
    unfold OpenLaw.pre at hc
    have h4 : (WTm.not (.lt (.lit (.int (n : Int))) (.len (.arg 0)))).holds [] { args := [.list (ns.map .int)] } = true := by
      have h4 := (holds_andW hc).1
      rw [hn] at h4
      exact h4
    have h5 := condW_of h4 (w_not (w_lt w_lit (w_len_list (w_arg rfl))))
    rw [List.length_map] at h5
    refine Nat.le_of_not_lt fun q => ?_
    have q' : (n : Int) < ((ns.length : Nat) : Int) := by omega
    first
      | (rw [decide_eq_true q'] at h5; exact absurd h5 (by decide))
      | (simp at h5; omega)
  cases hwl with
  | cons w1 w2 =>
    cases w2
    cases w1 with
    | list ho hall => exact ⟨_, _, ns, rfl, rfl, ho, ints_of_wellAll ns _ hall, hlen⟩
theorem post_true (l : OpenLaw) (args : List WData) : l.row.toRowW.claim.post args (.bool true) args = true :=
  postW_of (r := l.row.toRowW) (X := (true == true))
    (show WShape.has [] (.bool true) .bool = true by first | rfl | decide | simp [WShape.has, WShape.arms, WShape.armsAll])
    (show (WTm.eq .res (.lit (.bool true))).value [] { args := args, res := some (.bool true), after := args } = some (.bool (true == true)) from w_eq_bool (w_res rfl) w_lit) rfl
section
variable {prog : Program} {w : World} {A : Around} {E : Value → Shared → Prop} {s : Shared} {K : Frag}
end
end Att
namespace L2
open PySem PySem.Spec PyProof.Rows
theorem vals_ints : ∀ {vs : List Value} {ns : List Int}, IntsAre vs ns → Vals (ns.map V.int) vs
  | _, _, .nil => .nil
  | _, _, .cons n t h => .cons ⟨t, rfl⟩ (vals_ints h)
def Only (H : Hp) : Prop := ∀ b, H b = none ∨ ∃ o xs, H b = some (.frz o (.lst xs))
theorem law_call {P : Program} {w : World} {K : PySem.W.Frag} {mg mb : Str → Option Value} {CX : CXT} {k : Nat} {fa a : Addr} {fd : FuncData} {x : Str} {sp : Sp} {s₁ : Shared} {vs : List Value} {ns : List Int}
    (KX : K.In s₁.heap) (hns : s₁.heap.Ns mainGlobals mg) (hb : s₁.heap.Ns builtinsNs mb) (hbb : ∀ x : Str, x ≠ "__name__" → mb x = bootBuiltins x) (hlim : s₁.heap.NoLimit) (hg : s₁.gens = #[])
    (ha : s₁.heap.get? a = some { cls := .type "list", data := .seq vs.toArray }) (hi : IntsAre vs ns) (hl : ns.length ≤ sizeLine) (hr : Room k callerA)
    (F : ∀ base : Heap, K.In base → base.Ns mainGlobals mg → FnOk P w K mg base CX k fa fd [x] sp) (hbind : ∀ (s : Shared) (u : Value), BindsTo s fd ⟨[u], []⟩ [(x, u)])
    (hsp : ∀ H : Hp, Only H → SqL K H a (ns.map V.int) → sp [.ref a] H (fun v _ => v = .bl true) fun _ _ _ => False)
    (hCX : ∀ H e s', CX [] H s₁ (fun _ _ _ => False) e s' → False) :
    codeAny (model P w) callerA (.call (.ref fa) ⟨[.ref a], []⟩) (fun r s' => r = .ok (.ret (.bool true)) ∧ OldK s₁.heap s'.heap ∧ s'.os = s₁.os ∧ AllBare s'.gens) s₁ := by
  have rv := vals_ints hi
  have lenV := hi.length
  have core : ∀ H : Hp, Only H → SqL K H a (ns.map V.int) → HOk P w H s₁.heap → (∀ b, H b ≠ none → b = a) → (H a ≠ none → K.lookup a = none) →
      codeAny (model P w) callerA (.call (.ref fa) ⟨[.ref a], []⟩) (fun r s' => r = .ok (.ret (.bool true)) ∧ OldK s₁.heap s'.heap ∧ s'.os = s₁.os ∧ AllBare s'.gens) s₁ := by
    intro H hO hS hok hA hK
    have base_of : ∀ {b : Addr} {o : Obj}, s₁.heap.get? b = some o → H b = none → (hidT s₁.heap H).get? b = some o := fun e n => hidT_get e n
    have noA : ∀ {b : Addr} {o : Obj} {es : Array DictEntry} {ep : Nat}, s₁.heap.get? b = some o → o.data = .dict es ep → H b = none := fun {b o es ep} e d => by
      cases q : H b with
      | none => rfl
      | some u =>
        have e' : b = a := hA b (by rw [q]; simp)
        subst e'
        rw [ha] at e; cases e
        have d' : Data.seq vs.toArray _ = Data.dict es ep := d
        cases d'
    have nsK : ∀ {b : Addr} {m : Str → Option Value}, s₁.heap.Ns b m → (hidT s₁.heap H).Ns b m := fun {b m} ⟨o, es, ep, e, d, r⟩ => ⟨o, es, ep, base_of e (noA e d), d, r⟩
    have hKb : K.In (hidT s₁.heap H) := fun b o e => base_of (KX b o e) (by
      cases q : H b with
      | none => rfl
      | some u =>
        have e' : b = a := hA b (by rw [q]; simp)
        subst e'
        rw [hK (by rw [q]; simp)] at e; cases e)
    have hM : Mod K mg (hidT s₁.heap H) := ⟨hKb, nsK hns, ⟨mb, nsK hb, hbb⟩, let ⟨mc, h1, h2⟩ := hlim; ⟨mc, nsK h1, h2⟩⟩
    have e0 : Env0 P w K mg (hidT s₁.heap H) callerA [] s₁ H := ⟨rfl, hM, fun b o e => of_hidT e, Nat.le_of_eq (hidT_size _ _), trivial, fun b hb => absurd (show b ∈ ([] : List Addr) from hb) (by simp), hok, .of_eq hg⟩
    refine codeAny_mono ((F _ hKb (nsK hns)).run callerA [] s₁ H ⟨[.ref a], []⟩ [.ref a] [.ref a] _ _ hr e0 (hbind s₁ (.ref a)) (.cons rfl .nil) (hsp H hO hS)) fun r s' h => ?_
    cases r with
    | error e => exact (hCX H e s' h).elim
    | ok fl =>
      cases fl with
      | next => exact False.elim h
      | brk => exact False.elim h
      | cont => exact False.elim h
      | ret u =>
        obtain ⟨v, H', os, bare, un, hok', r', q⟩ := h
        have q' : v = .bl true := q
        subst q'
        obtain rfl : u = Value.bool true := r'
        refine ⟨rfl, OldK.of_keep fun b o e => ?_, os, bare⟩
        cases q : H b with
        | none => exact un.keep b o e q (by intro z; exact absurd (show b ∈ ([] : List Addr) from z) (by simp)) (by simp)
        | some u =>
          rcases hO b with z | ⟨ob, xs, z⟩
          · rw [q] at z; cases z
          · have z2 := un.frzs b ob _ z
            obtain ⟨e1, _⟩ := hok b _ z
            obtain ⟨e2, _⟩ := hok' b _ z2
            rw [e] at e1; cases e1
            exact e2
  cases hk : K.lookup a with
  | some o =>
    have e := KX a o hk
    rw [ha] at e
    cases e
    refine core (fun _ => none) (fun _ => .inl rfl) (.inr ⟨_, vs.toArray, _, hk, rfl, rfl, rfl, by rw [List.size_toArray, lenV]; exact hl, by simpa using rv⟩) (fun b u z => by have z' : (none : Option HO) = some u := z; cases z') (fun b z => absurd rfl z) fun z => absurd rfl z
  | none =>
    refine core (fun b => if b = a then some (.frz { cls := .type "list", data := .seq vs.toArray } (.lst (ns.map V.int))) else none) (fun b => ?_) (.inl (.inr ⟨{ cls := .type "list", data := .seq vs.toArray }, if_pos rfl⟩)) (fun b u z => ?_) (fun b z => ?_) fun _ => hk
    · by_cases hb : b = a
      · exact .inr ⟨_, _, if_pos hb⟩
      · exact .inl (if_neg hb)
    · by_cases hb : b = a
      · have z' := (if_pos hb).symm.trans z
        cases z'
        subst hb
        exact ⟨ha, by rw [List.length_map]; exact hl, vs, _, rv, ha⟩
      · have z' := (if_neg hb).symm.trans z
        cases z'
    · by_cases hb : b = a
      · exact hb
      · exact absurd (if_neg hb) z
end L2
namespace L2
open PySem PySem.Spec PyProof.Rows
end L2
namespace L2
open PySem PySem.Spec PyProof.Rows
def defArgs (s : Stmt) : Arguments := match s with
  | .FunctionDef _ a _ _ _ _ _ _ _ _ => a
  | _ => { posonlyargs := [], args := [], vararg := none, kwonlyargs := [], kw_defaults := [], kwarg := none, defaults := [] }
def defBody (s : Stmt) : List Stmt := match s with
  | .FunctionDef _ _ b _ _ _ _ _ _ _ => b
  | _ => []
def defScope (s : Stmt) : Scope := match s with
  | .FunctionDef _ _ _ _ _ _ sc _ _ _ => sc
  | _ => { kind := .function, names := [], isGenerator := false, isCoroutine := false }
abbrev E0 : XK := fun _ _ _ => False
section
variable {P : Program} {w : World} {K : PySem.W.Frag} {mg : Str → Option Value} {base : Heap}
end
section
variable {X : Cx}
theorem pv (i : Nat) {x : Str} {pos : Pos} (hN : X.N[i]? = some x := by rfl) (hv : Vis X.env.scope x := by first | exact Or.inl rfl | exact Or.inr (Or.inl rfl) | exact Or.inr (Or.inr rfl)) (hd : (x == ("__debug__" : Str)) = false := by decide)
    (hcd : (x == ("__classdict__" : Str)) = false := by decide) : PE X (.Name x pos) (tVar i) := pe_var hN hv hd hcd
end
theorem iteF {A B : Prop} (h : B) : if false = true then A else B := by
  rw [if_neg Bool.false_ne_true]
  exact h
theorem iteT {A B : Prop} (h : A) : if true = true then A else B := by
  rw [if_pos rfl]
  exact h
def Same (H H' : Hp) : Prop := ∀ b o, H b = some o → H' b = some o
theorem Same.refl (H : Hp) : Same H H := fun _ _ h => h
theorem Same.trans {H H1 H2 : Hp} (a : Same H H1) (b : Same H1 H2) : Same H H2 := fun c o h => b c o (a c o h)
theorem Same.seq {K : PySem.W.Frag} {H H' : Hp} {a : Addr} {xs : List V} (e : Same H H') (h : SqL K H a xs) : SqL K H' a xs := by
  rcases h with (h | ⟨o, h⟩) | h
  · exact .inl (.inl (e _ _ h))
  · exact .inl (.inr ⟨o, e _ _ h⟩)
  · exact .inr h
end L2
set_option maxRecDepth 100000
namespace Kw
theorem gcd_step (g s : Int) (hg : 0 ≤ g) (hs : 0 < s) : Int.gcd s (g % s) = Int.gcd g s := by
  obtain ⟨m, rfl⟩ := Int.eq_ofNat_of_zero_le hg
  obtain ⟨n, rfl⟩ := Int.eq_ofNat_of_zero_le (Int.le_of_lt hs)
  have e : ((m : Int) % (n : Int)) = ((m % n : Nat) : Int) := by omega
  rw [e]
  show Nat.gcd n (m % n) = Nat.gcd m n
  rw [Nat.gcd_comm m n, Nat.gcd_rec n m, Nat.gcd_comm]
theorem gcd_abs (a b : Int) : Int.gcd (if a < 0 then -a else a) (if b < 0 then -b else b) = Int.gcd a b := by
  have e : ∀ x : Int, (if x < 0 then -x else x).natAbs = x.natAbs := fun x => by split <;> omega
  show Nat.gcd _ _ = Nat.gcd _ _
  rw [e, e]
theorem gcd_end (g : Int) (hg : 0 ≤ g) : ((Int.gcd g 0 : Nat) : Int) = g := by
  show ((Nat.gcd g.natAbs 0 : Nat) : Int) = g
  rw [Nat.gcd_zero_right]; omega
theorem abs_nn (a : Int) : 0 ≤ (if a < 0 then -a else a) := by split <;> omega
def dv (t b : Int) : Int := if b < 0 then -((Int.gcd t b : Nat) : Int) else ((Int.gcd t b : Nat) : Int)
def fT (t b : Int) : Int := t.fdiv (dv t b)
def fB (t b : Int) : Int := b.fdiv (dv t b)
theorem dv_ne {t b : Int} (h : b ≠ 0) : dv t b ≠ 0 := by
  have hp : 0 < Int.gcd t b := Int.gcd_pos_of_ne_zero_right _ h
  unfold dv; split <;> omega
theorem dv_le {t b : Int} (h : b ≠ 0) : (dv t b).natAbs ≤ b.natAbs := by
  have hd : Int.gcd t b ∣ b.natAbs := Nat.gcd_dvd_right _ _
  have := Nat.le_of_dvd (by omega) hd
  unfold dv; split <;> omega
theorem dv_dvd_b (t b : Int) : dv t b ∣ b := by
  have h : ((Int.gcd t b : Nat) : Int) ∣ b := Int.gcd_dvd_right ..
  unfold dv; split
  · exact (Int.neg_dvd).mpr h
  · exact h
theorem dv_dvd_t (t b : Int) : dv t b ∣ t := by
  have h : ((Int.gcd t b : Nat) : Int) ∣ t := Int.gcd_dvd_left ..
  unfold dv; split
  · exact (Int.neg_dvd).mpr h
  · exact h
theorem fT_mul (t b : Int) : dv t b * fT t b = t := by
  unfold fT
  exact Int.mul_fdiv_cancel' (dv_dvd_t t b)
theorem fB_mul (t b : Int) : dv t b * fB t b = b := by
  unfold fB
  exact Int.mul_fdiv_cancel' (dv_dvd_b t b)
theorem fB_pos {t b : Int} (h : b ≠ 0) : 0 < fB t b := by
  have e := fB_mul t b
  have hn := dv_ne (t := t) h
  have hg : 0 ≤ ((Int.gcd t b : Nat) : Int) := Int.natCast_nonneg _
  rcases Int.lt_or_gt_of_ne h with hb | hb
  · have hd : dv t b < 0 := by unfold dv at hn ⊢; rw [if_pos hb] at hn ⊢; omega
    refine Int.not_le.mp fun q => ?_
    have := Int.mul_nonneg_of_nonpos_of_nonpos (Int.le_of_lt hd) q
    omega
  · have hd : 0 < dv t b := by unfold dv at hn ⊢; rw [if_neg (by omega)] at hn ⊢; omega
    refine Int.not_le.mp fun q => ?_
    have := Int.mul_nonpos_of_nonneg_of_nonpos (Int.le_of_lt hd) q
    omega
theorem natAbs_le_mul {d x : Int} (h : d ≠ 0) : x.natAbs ≤ (d * x).natAbs := by
  rw [Int.natAbs_mul]
  exact Nat.le_mul_of_pos_left _ (by omega)
theorem fT_le {t b : Int} (h : b ≠ 0) : (fT t b).natAbs ≤ t.natAbs := by
  have q := natAbs_le_mul (x := fT t b) (dv_ne (t := t) h)
  rw [fT_mul] at q; exact q
theorem fB_le {t b : Int} (h : b ≠ 0) : (fB t b).natAbs ≤ b.natAbs := by
  have q := natAbs_le_mul (x := fB t b) (dv_ne (t := t) h)
  rw [fB_mul] at q; exact q
end Kw
set_option Elab.async false
set_option linter.all false
set_option maxRecDepth 100000
set_option maxHeartbeats 4000000
namespace Kw
open PySem PySem.Spec PyProof.Rows L2
def But (b : Addr) (H H' : Hp) : Prop := ∀ a o, a ≠ b → H a = some o → H' a = some o
theorem But.trans {b : Addr} {H H1 H2 : Hp} (x : But b H H1) (y : But b H1 H2) : But b H H2 := fun a o n h => y a o n (x a o n h)
theorem But.of {b : Addr} {H H' : Hp} (x : Same H H') : But b H H' := fun a o _ h => x a o h
theorem same_new {H : Hp} {p : Addr} (h : H p = none) (o : HO) : Same H (upd H p o) := fun b u q => by rw [upd_ne (ne_of_none q h)]; exact q
theorem but_upd {H : Hp} {p : Addr} (o : HO) : But p H (upd H p o) := fun b u n q => by rw [upd_ne n]; exact q
theorem Same.tup {K : PySem.W.Frag} {H H' : Hp} {a : Addr} {xs : List V} (e : Same H H') (h : SqT K H a xs) : SqT K H' a xs := by
  rcases h with (h | ⟨o, h⟩) | h
  · exact .inl (.inl (e _ _ h))
  · exact .inl (.inr ⟨o, e _ _ h⟩)
  · exact .inr h
theorem But.tup {K : PySem.W.Frag} {H H' : Hp} {b a : Addr} {ys xs : List V} (e : But b H H') (hb : H b = some (.lst ys)) (h : SqT K H a xs) : SqT K H' a xs := by
  rcases h with (h | ⟨o, h⟩) | h
  · exact .inl (.inl (e _ _ (ne_of h hb (by intro z; cases z)) h))
  · exact .inl (.inr ⟨o, e _ _ (ne_of h hb (by intro z; cases z)) h⟩)
  · exact .inr h
theorem But.seq {K : PySem.W.Frag} {H H' : Hp} {b a : Addr} {xs : List V} (e : But b H H') (n : a ≠ b) (h : SqL K H a xs) : SqL K H' a xs := by
  rcases h with (h | ⟨o, h⟩) | h
  · exact .inl (.inl (e _ _ n h))
  · exact .inl (.inr ⟨o, e _ _ n h⟩)
  · exact .inr h
section
variable {σ : L2.St} {H : Hp} {Q : VK} {v : V} {i j : Int} {K : PySem.W.Frag} {p : Addr} {xs : List V}
theorem rd_new {R : V → Hp → Prop} {o : HO} (h : ∀ p H', Same H H' → H' p = some o → R (.ref p) H') : ∀ p, H p = none → R (.ref p) (upd H p o) := fun p hp => h p _ (same_new hp o) upd_same
end
theorem if_cases {c : Bool} {A B : Prop} (h1 : c = true → A) (h2 : c = false → B) : if c = true then A else B := by
  cases c
  · exact iteF (h2 rfl)
  · exact iteT (h1 rfl)
theorem if_dec {c : Prop} [Decidable c] {A B : Prop} (h1 : c → A) (h2 : ¬ c → B) : if decide c = true then A else B :=
  if_cases (fun e => h1 (of_decide_eq_true e)) (fun e => h2 (of_decide_eq_false e))
theorem if_decI {i j : Int} {A B : Prop} (h1 : i = j → A) (h2 : i ≠ j → B) : if decide (V.int i = V.int j) = true then A else B :=
  if_dec (fun e => h1 (V.int.inj e)) (fun e => h2 fun z => e (congrArg V.int z))
section
variable {X : Cx} {a b c : Expr} {ta tb tc : TE} {pos : Pos}
def CDivB (_ j : Int) : Prop := j ≠ 0 ∧ j.natAbs.log2 < 9000
theorem op_fdivB : OpR X (binaryOp .FloorDiv) (rI CDivB fun i j => .int (i.fdiv j)) := opI fun _ _ _ _ _ _ _ hc q => floordiv_int hc.1 q (.inl (PyProof.noPylong_of_log2 hc.2))
theorem op_mulB : OpR X (binaryOp .Mult) (rI IntMulOk fun i j => .int (i * j)) := opI fun _ _ _ _ _ _ _ hc q => mul_int q hc
theorem call_divmodB : CallR X (.builtin "divmod") (fun xs H Q => ∃ i j, xs = [.int i, .int j] ∧ (0 < j ∧ j.natAbs.log2 < 9000) ∧ ∀ p, H p = none → Q (.ref p) (upd H p (.tup [.int (i / j), .int (i % j)]))) := by
  intro pins s σ H xs us Q I r h
  obtain ⟨i, j, rfl, ⟨h1, h2⟩, q⟩ := h
  obtain ⟨u, w', rfl, ⟨t, rfl⟩, ⟨t', rfl⟩⟩ := vals2 r
  refine divmod_int (by omega) ?_ (.inl (PyProof.noPylong_of_log2 h2))
  rw [Int.fdiv_eq_ediv_of_nonneg i (by omega), Int.fmod_eq_emod_of_nonneg i (by omega)]
  have hn : H s.heap.objs.size = none := I.hok.fresh (Nat.le_refl _)
  refine ⟨.ref s.heap.objs.size, _, ?_, rfl, q _ hn⟩
  refine I.laid (fun b o e => Heap.get?_push_of_some _ e) (Nat.le_refl _) ⟨by simp only [List.length_cons, List.length_nil]; rw [sizeLine_eq]; decide, [.int (i / j) s.toks, .int (i % j) (s.toks + 1)], .cons ⟨_, rfl⟩ (.cons ⟨_, rfl⟩ .nil), ?_⟩
  exact ⟨_, Heap.get?_push_size s.heap rfl, rfl, 0, rfl⟩
theorem pe_globI {x : Str} {i : Int} {pos : Pos} (hg : Gl X x) (hm : ∃ t, X.mg x = some (.int i t)) (hd : (x == ("__debug__" : Str)) = false := by decide) (hcd : (x == ("__classdict__" : Str)) = false := by decide) : PE X (.Name x pos) (tC (.int i)) := by
  obtain ⟨t, hm⟩ := hm
  exact pe_glob hg hm ⟨t, rfl⟩ hd
theorem pe_bty {x : Str} {T : String} {pos : Pos} (hg : Gl X x) (hm : X.mg x = none) (hv : bootBuiltins x = some (.type T)) (hn : x ≠ "__name__" := by decide) (hd : (x == ("__debug__" : Str)) = false := by decide) : PE X (.Name x pos) (tC (.ty T)) :=
  pe_bltn hg hm hv (v := .ty T) rfl hn hd
def valC : V → Value
  | .ty T => .type T
  | .ref C => .ref C
  | _ => .none
def IsI (K : PySem.W.Frag) (H : Hp) (x c : V) (b : Bool) : Prop := ∃ t, TyOf K H x t ∧ PySem.W.kitOne K t (valC c) = some b
theorem call_isinst : CallR X (.builtin "isinstance") (fun xs H Q => ∃ x c b, xs = [x, c] ∧ ((∃ T, c = .ty T) ∨ ∃ C, c = .ref C) ∧ IsI X.K H x c b ∧ Q (.bl b) H) := by
  intro pins s σ H xs us Q I r h
  obtain ⟨x, c, b, rfl, hc, ⟨t, ty, e⟩, q⟩ := h
  obtain ⟨u, w', rfl, rx, rc⟩ := vals2 r
  have ec : w' = valC c := by
    rcases hc with ⟨T, rfl⟩ | ⟨C, rfl⟩
    · exact rc
    · exact rc
  subst ec
  exact isinst_ok I rx ty e fun tk => ⟨.bl b, H, I.tok _, rfl, q⟩
end
end Kw
set_option Elab.async false
set_option linter.all false
set_option maxRecDepth 100000
set_option maxHeartbeats 4000000
namespace Kw
open PySem PySem.Spec PyProof.Rows L2
section
variable {M : Model} {A : Around} {E : Value → Shared → Prop} {s : Shared} {bs : Heap} {l up : List Env} {env : Env} {x L : Addr} {c : Value} {od : Option Addr} {a0 fl : Value} {Q : Unit → Shared → Prop}
end
end Kw
set_option Elab.async false
set_option linter.all false
set_option maxRecDepth 100000
set_option maxHeartbeats 4000000
namespace Kw
open PySem PySem.Spec PyProof.Rows L2
structure FlyAt (H : Hp) (h0 h : Heap) (x : Addr) (C : Value) (od : Option Addr) : Prop where
  new : h0.get? x = none
  free : H x = none
  tr : ∃ oe vs a0 T oT ts, h.get? x = some oe ∧ oe.cls = C ∧ oe.dict = od ∧ oe.data = .fields vs ∧ vs[0]? = some a0 ∧ vs[1]? = some (.ref T) ∧ h0.get? T = none ∧ H T = none ∧ T ≠ x ∧ h.get? T = some oT ∧ oT.data = .fields ts ∧ ts[3]? = some .none
def CXE (P : Program) (w : World) : CXT := fun outer H s E e s' =>
  ∃ (x : Addr) (C : Value) (od : Option Addr) (H' : Hp), e = .ref x ∧ s'.os = s.os ∧ AllBare s'.gens ∧ Un (frs outer) [] H H' s.heap s'.heap ∧ HOk P w H' s'.heap ∧ FlyAt H' s.heap s'.heap x C od ∧ E C od H'
theorem passE0 {P : Program} {w : World} {X : Cx} : Passes (CXE P w) X E0 := fun _ _ _ _ _ _ _ h => by
  obtain ⟨_, _, _, _, _, _, _, _, _, _, q⟩ := h
  exact q.elim
section
variable {X : Cx} {pins : List (Addr × Obj)} {σ : L2.St} {H : Hp} {s : Shared} {h' : Heap} {ch : List Addr}
structure Flown (X : Cx) (H : Hp) (h h' : Heap) (ch : List Addr) : Prop where
  keep : ∀ b o, h.get? b = some o → b ∉ frs X.stack → b ∉ ch → h'.get? b = some o
  slot : ∀ b o, h.get? b = some o → b ∈ frs X.stack → ∃ sl, h'.get? b = some { o with slots := sl }
  young : ∀ b ∈ ch, X.s₀.heap.get? b = none ∧ H b = none
end
end Kw
set_option Elab.async false
set_option linter.all false
set_option maxRecDepth 100000
set_option maxHeartbeats 4000000
namespace Kw
open PySem PySem.Spec PyProof.Rows L2
section
variable {X : Cx} {x : Str} {C : Addr} {E : XK} {e : Expr} {es : List Expr} {t : TA} {np cpos pos : Pos}
end
structure Fu (K : PySem.W.Frag) (x : Str) (st : Stmt) (f : Addr) (fd : FuncData) : Prop where
  ex : ∃ (oc : Value) (od : Option Addr) (dV kV doc pm : Value) (an : Option Addr) (cdv ct : Value) (osl : Array (Option Value)),
    fd = PySem.W.fnOf x x (defArgs st) (defBody st) (defScope st) dV kV doc pm an cdv ct ∧ K.lookup f = some ⟨oc, od, .func fd, osl⟩ ∧ PySem.W.codeIn K cdv x = true
  kp : PySem.W.keepIn K (.ref f) = true
structure Df (K : PySem.W.Frag) (mg : Str → Option Value) (x : Str) (st : Stmt) (ps : List Str) : Prop where
  ex : ∃ f fd, Fu K x st f fd ∧ Binds K fd ps [] ∧ mg x = some (.ref f)
structure Fn (P : Program) (w : World) (K : PySem.W.Frag) (mg : Str → Option Value) (base : Heap) (k : Nat) (x : Str) (ps : List Str) (sp : Sp) : Prop where
  ex : ∃ f fd, FnOk P w K mg base (CXE P w) k f fd ps sp ∧ mg x = some (.ref f) ∧ PySem.W.keepIn K (.ref f) = true ∧ Binds K fd ps [] ∧ ∃ oc od osl, K.lookup f = some ⟨oc, od, .func fd, osl⟩
section
variable {P : Program} {w : World} {K : PySem.W.Frag} {mg : Str → Option Value} {base : Heap} {x : Str} {st : Stmt} {N ps : List Str} {k : Nat} {sp : Sp}
theorem Df.ok0 (D : Df K mg x st ps) (S : FnScope N ps (defScope st)) (len : ∀ vs H Q E, sp vs H Q E → vs.length = ps.length)
    (hbody : ∀ (f : Addr) (cdv : Value) (A : Around) (outer : List Env) (s : Shared) (H : Hp) (vs : List V) (Q : VK) (E : XK), Room k (A.deeper (envOfC x (defScope st) s.heap.objs.size f cdv)) → sp vs H Q E →
      ∃ t, PSs (cxOf (CXE P w) P w K mg base N x (defScope st) f cdv A outer s H E).nox (defBody st) t ∧ t { nx := fun _ H' => Q .non H', rt := Q } (start N vs) H) : Fn P w K mg base (k + 1) x ps sp := by
  obtain ⟨f, fd, ⟨⟨oc, od, dV, kV, doc, pm, an, cdv, ct, osl, rfl, lk, hcd⟩, kp⟩, bd, hm⟩ := D.ex
  refine ⟨f, _, fn_of lk hcd S len fun A outer s H vs Q E hr hsp => ?_, hm, kp, bd, _, _, _, lk⟩
  obtain ⟨t, h, q⟩ := hbody f cdv A outer s H vs Q E hr hsp
  exact ⟨t, h.nox, q⟩
end
section
variable {X : Cx} {k k' : Nat} {x : Str} {ps : List Str} {sp : Sp} {E : XK} {p pos : Pos} {e : Expr} {es : List Expr} {t : TA}
theorem pe_fn (F : Fn X.prog X.w X.K X.mg X.base k x ps sp) (hk : k ≤ k') (hr : Room k' X.A) (hg : Gl X x) (hx : Passes (CXE X.prog X.w) X E) (ha : PA X (e :: es) t) (hdb : (x == ("__debug__" : Str)) = false := by decide)
    (he : starEach (e :: es) X.env = (false, eval e X.env) :: starEach es X.env := by rfl) (hpl : (backTo pos (starEach es X.env)).any (·.1) = false := by rfl) : PE X (.Call (.Name x p) (e :: es) [] pos) (tCall sp [] E t) := by
  obtain ⟨f, fd, G, hm, kp, bd, _⟩ := F.ex
  exact pe_call G (hr.mono hk) hg hm kp bd .nil hx ha hdb he hpl
end
end Kw
set_option Elab.async false
set_option linter.all false
set_option maxRecDepth 100000
set_option maxHeartbeats 4000000
namespace Kw
open PySem PySem.Spec PyProof.Rows L2
def Bd (n : Nat) (i : Int) : Prop := i.natAbs < 2 ^ n
theorem Bd.mono {m n : Nat} {i : Int} (h : Bd m i) (l : m ≤ n) : Bd n i := Nat.lt_of_lt_of_le h (Nat.pow_le_pow_right (by decide) l)
theorem Bd.of_le {n : Nat} {i j : Int} (h : Bd n j) (l : i.natAbs ≤ j.natAbs) : Bd n i := Nat.lt_of_le_of_lt l h
theorem Bd.bits {n : Nat} {i : Int} (h : Bd n i) : Builtin.Int.intBits i ≤ n := intBits_le_iff.mpr h
theorem bd_bits {n : Nat} {i : Int} (h : Builtin.Int.intBits i ≤ n) : Bd n i := intBits_le_iff.mp h
theorem Bd.mul {m n : Nat} {i j : Int} (h : Bd m i) (g : Bd n j) : Bd (m + n) (i * j) := bd_bits (intBits_mul_le h.bits g.bits)
theorem Bd.add {m : Nat} {i j : Int} (h : Bd m i) (g : Bd m j) : Bd (m + 1) (i + j) := bd_bits (Nat.le_trans (intBits_add_le h.bits g.bits) (by omega))
theorem Bd.sub {m : Nat} {i j : Int} (h : Bd m i) (g : Bd m j) : Bd (m + 1) (i - j) := bd_bits (Nat.le_trans (intBits_sub_le h.bits g.bits) (by omega))
theorem Bd.ok {m n : Nat} {i j : Int} (h : Bd m i) (g : Bd n j) (l : m + n ≤ 134217728) : IntMulOk i j := .of_le h.bits g.bits l
theorem Bd.small {i : Int} (h1 : -(2 ^ 64) < i) (h2 : i < 2 ^ 64) : Bd 64 i := bd_bits (intBits_le_64 h1 h2)
theorem Bd.log {i : Int} (h : Bd 9000 i) : i.natAbs.log2 < 9000 := by
  by_cases h0 : i.natAbs = 0
  · rw [h0]; decide +kernel
  · exact (Nat.log2_lt h0).mpr h
theorem mulOk_small {i j : Int} (h1 : -(2 ^ 64) < j) (h2 : j < 2 ^ 64) : IntMulOk i j := .of_right (intBits_le_64 h1 h2)
theorem mulOk_smallL {i j : Int} (h1 : -(2 ^ 64) < i) (h2 : i < 2 ^ 64) : IntMulOk i j := .of_left (intBits_le_64 h1 h2)
theorem bd_fT {n : Nat} {t b : Int} (h : b ≠ 0) (g : Bd n t) : Bd n (fT t b) := g.of_le (fT_le h)
theorem bd_fB {n : Nat} {t b : Int} (h : b ≠ 0) (g : Bd n b) : Bd n (fB t b) := g.of_le (fB_le h)
theorem bd_dv {n : Nat} {t b : Int} (h : b ≠ 0) (g : Bd n b) : Bd n (dv t b) := g.of_le (dv_le h)
section
variable {K : PySem.W.Frag}
theorem kit_int_int : PySem.W.kitOne K (.type "int") (.type "int") = some true := by with_unfolding_all rfl
theorem kit_int_bool : PySem.W.kitOne K (.type "int") (.type "bool") = some false := by with_unfolding_all rfl
end
def spWhole (K : PySem.W.Frag) : Sp := fun vs H Q _ => ∃ x t b1 b2, vs = [x] ∧ TyOf K H x t ∧ PySem.W.kitOne K t (.type "int") = some b1 ∧ PySem.W.kitOne K t (.type "bool") = some b2 ∧ Q (.bl (b1 && !b2)) H
def Frac (t b : Int) (H : Hp) (Q : VK) : Prop := ∀ p H', Same H H' → H' p = some (.tup [.int (fT t b), .int (fB t b)]) → Q (.ref p) H'
def Scr (K : PySem.W.Frag) (H : Hp) (a : Addr) : Prop := ∃ ns : List Int, SqL K H a (ns.map V.int) ∧ ns.length ≤ 63 ∧ ∀ n ∈ ns, Bd 1048576 n
def spCell (K : PySem.W.Frag) : Sp := fun vs H Q _ => ∃ a k, vs = [.ref a, .int k] ∧ Scr K H a ∧ 0 ≤ k ∧ k ≤ 1000 ∧ ∀ c, Bd 1048576 c → Q (.int c) H
def spMix : Sp := fun vs H Q _ => ∃ c k, vs = [.int c, .int k] ∧ Bd 1048576 c ∧ 0 ≤ k ∧ k ≤ 1000 ∧ ∀ n, Q (.int n) H
def spBox (K : PySem.W.Frag) : Sp := fun vs H Q _ => ∃ a k, vs = [.ref a, .int k] ∧ Scr K H a ∧ 0 ≤ k ∧ k ≤ 1000 ∧ ∀ p n H', H p = none → Same H H' → H' p = some (.lst [.int n]) → Q (.ref p) H'
def spTake : Sp := fun vs H Q _ => ∃ b m n, vs = [.ref b, .int m] ∧ H b = some (.lst [.int n]) ∧ 0 < m ∧ Bd 9000 m ∧ ∀ d n' H', 0 ≤ d → d < m → But b H H' → H' b = some (.lst [.int n']) → Q (.int d) H'
def spFit : Sp := fun vs H Q _ => ∃ a b : Int, vs = [.int a, .int b] ∧ b ≠ 0 ∧ Bd 9000 b ∧ Frac a b H Q
end Kw
set_option Elab.async false
set_option linter.all false
set_option maxRecDepth 100000
set_option maxHeartbeats 4000000
namespace Kw
open PySem PySem.Spec PyProof.Rows L2
section
variable {X : Cx} {pins : List (Addr × Obj)} {σ : L2.St} {H : Hp} {s : Shared} {h' : Heap} {ch : List Addr} {x : Addr}
theorem Inv.adopt (hcl : ∀ y c, X.env.cells.lookup y = some c → c ≠ x)   {o : HO} (I : Inv X pins σ H s) (n0 : X.s₀.heap.get? x = none) (hx : H x = none) (hL : x ≠ X.env.locals) (np : ∀ p ∈ X.pn ++ pins, p.1 ≠ x) (ok : ObjOk X.prog X.w (upd H x o) s.heap x o) :
    Inv X pins σ (upd H x o) s := by
  have nx : ∀ b, H b ≠ none → b ≠ x := fun b hb z => hb (by rw [z]; exact hx)
  refine ⟨I.ok, I.os, I.bare, ⟨I.base.keep, I.base.slot, fun b ob q n hb => ?_, I.base.there, fun b xs q => ?_, fun b ob u q => ?_, fun b ps q => ?_⟩, I.loc, I.cell, ?_, fun y c z => ?_, fun p hp => ?_, fun a u e => ?_, I.len⟩
  · rw [upd_ne fun z => by rw [z, n0] at q; cases q]
    exact I.base.free b ob q n hb
  · have z := I.base.tups b xs q
    rw [upd_ne (nx b (by rw [z]; exact fun q => nomatch q))]
    exact z
  · have z := I.base.frzs b ob u q
    rw [upd_ne (nx b (by rw [z]; exact fun q => nomatch q))]
    exact z
  · obtain ⟨more, z⟩ := I.base.tbls b ps q
    exact ⟨more, by rw [upd_ne (nx b (by rw [z]; exact fun q => nomatch q))]; exact z⟩
  · rw [upd_ne (Ne.symm hL)]
    exact I.free
  · rw [upd_ne (hcl y c z)]
    exact I.freeC y c z
  · obtain ⟨a, b, c, d, e⟩ := I.pin p hp
    exact ⟨a, by rw [upd_ne (np p hp)]; exact b, c, d, e⟩
  · by_cases z : a = x
    · subst z
      rw [upd_same] at e
      cases e
      exact ok
    · rw [upd_ne z] at e
      refine (I.hok a u e).stay (fun b v hb q => q) (fun b q => ?_) fun b xs q => ?_
      · rw [upd_ne (nx b (by rw [q]; exact fun q => nomatch q))]
        exact q
      · rw [upd_ne (nx b (by rw [q]; exact fun q => nomatch q))]
        exact q
end
end Kw
set_option Elab.async false
set_option linter.all false
set_option maxRecDepth 100000
set_option maxHeartbeats 4000000
namespace Kw
open PySem PySem.Spec PyProof.Rows L2
section
variable {X : Cx} {pins : List (Addr × Obj)} {σ : L2.St} {H : Hp} {s : Shared}
end
section
variable {X : Cx} {k k' i j : Nat} {fx y n xK : Str} {ps : List Str} {sp : Sp} {CK : Addr} {e : Expr} {es : List Expr} {t : TA} {ts : TS} {b₀ : Stmt} {suite : List Stmt} {np cpos yp apos kp hpos pos : Pos}
end
end Kw
set_option Elab.async false
set_option linter.all false
set_option maxRecDepth 100000
set_option maxHeartbeats 4000000
namespace Kw
open PySem PySem.Spec PyProof.Rows L2
section
variable {X : Cx}
end
end Kw
set_option Elab.async false
set_option linter.all false
set_option maxRecDepth 100000
set_option maxHeartbeats 4000000
namespace Kw
open PySem PySem.Spec PyProof.Rows L2
section
variable {X : Cx} {pins : List (Addr × Obj)} {σ : L2.St} {H : Hp} {s : Shared} {h' : Heap} {ch : List Addr}
end
end Kw
set_option Elab.async false
set_option linter.all false
set_option maxRecDepth 100000
set_option maxHeartbeats 4000000
namespace Kw
open PySem PySem.Spec PyProof.Rows L2
section
variable {X : Cx}
end
end Kw
set_option Elab.async false
set_option linter.all false
set_option maxRecDepth 100000
set_option maxHeartbeats 4000000
namespace Kw
open PySem PySem.Spec PyProof.Rows L2
theorem weight_items : ∀ (ns : List Int) (n : Int), n ∈ ns → Builtin.Int.intBits n ≤ PySem.W.WData.weightAll (ns.map PySem.W.WData.int)
  | [], _, h => nomatch h
  | m :: r, n, h => by
    have e : PySem.W.WData.weightAll ((m :: r).map PySem.W.WData.int) = Builtin.Int.intBits m + 1 + PySem.W.WData.weightAll (r.map PySem.W.WData.int) := rfl
    rw [e]
    rcases List.mem_cons.mp h with z | z
    · subst z; omega
    · have := weight_items r n z
      omega
theorem script_bits {ns : List Int} (h : PySem.W.WData.layableAll [PySem.W.WData.list (ns.map PySem.W.WData.int)] = true) : ∀ n ∈ ns, Bd 1048576 n := fun n hn => by
  have h1 : PySem.W.WData.layable (PySem.W.WData.list (ns.map PySem.W.WData.int)) = true := by
    unfold PySem.W.WData.layableAll at h
    simpa using h
  unfold PySem.W.WData.layable at h1
  rw [Bool.and_eq_true] at h1
  have h2 : PySem.W.WData.weightAll (ns.map PySem.W.WData.int) ≤ 2 ^ 20 := of_decide_eq_true h1.2
  exact bd_bits (Nat.le_trans (weight_items ns n hn) h2)
def spLaw (K : PySem.W.Frag) : Sp := fun vs H Q _ => ∃ a, vs = [.ref a] ∧ Scr K H a ∧ ∀ H', Q (.bl true) H'
theorem walk_kw {pn : Str} {l : PySem.W.OpenLaw} {k : Nat} {q : Program} {loose : List Str} {XP : (Str → Option Value) → Heap → Prop} {YP : World → Heap → Prop} {d : DefRec} {K : Params → PySem.W.Frag}
    (hn : l.most = some 63) (hdf : d.params.defaults = []) (hr : Room k callerA) (hY : ∀ (w : World) (h : Heap), YP w h → (K w.params).In h) (hnm : d.name = "law")
    (F : ∀ (w : World) (mg : Str → Option Value) (h : Heap), (K w.params).In h → h.Ns mainGlobals mg → ∃ fa, mg "law" = some (.ref fa) ∧ ∃ fd : FuncData, (∀ (s : Shared) (u : Value), BindsTo s fd ⟨[u], []⟩ [(pn, u)]) ∧
      ∀ base : Heap, (K w.params).In base → base.Ns mainGlobals mg → FnOk l.prog w (K w.params) mg base (CXE l.prog w) k fa fd [pn] (spLaw (K w.params))) :
    PySem.W.WalkO q loose XP YP l.row.toRowW d [] (fun f vs => PySem.call f vs) := by
  intro w s₀ s₁ mg mb G Y fa o pm cd doc dV kV ho hd hcd hD hmg hg args vals as hpre hlay hrd hwl hlo
  obtain ⟨a, vs, ns, e1, e2, hobj, hints, hlen⟩ := Att.script_of hn hpre hwl
  subst e1 e2
  have KX := hY w _ Y
  obtain ⟨fa', hfa, fd, hb, hF⟩ := F w mg _ KX G.T.g
  rw [hnm, hfa] at hmg
  cases hmg
  have core := law_call KX G.T.g G.T.b G.T.builtins G.T.nolimit hg hobj hints (Nat.le_trans hlen (by decide)) hr hF hb (fun H hO hS => ⟨a, rfl, ⟨ns, hS, hlen, script_bits hlay⟩, fun _ => rfl⟩) (fun H e s' z => by
    obtain ⟨_, _, _, _, _, _, _, _, _, _, z⟩ := z
    exact z)
  refine PySem.W.enter_call (codeAny_mono core fun r s' hq => ?_)
  obtain ⟨rfl, h2, h3, h4⟩ := hq
  exact ⟨.inl ⟨.bool true, .bool true, [], rfl, fun _ => rfl, .bool true, Att.post_true l _, fun _ => ⟨List.Pairwise.nil, fun _ hm => (nomatch hm)⟩⟩, h2, h3, h4⟩
theorem df_mk {K : PySem.W.Frag} {h : Heap} {mg : Str → Option Value} {x : Str} {st : Stmt} {ps : List Str} {f : Addr} {od an : Option Addr} {sl : Array (Option Value)} {oc kV dc pm cd ct : Value} (X : K.In h) (G : h.Ns mainGlobals mg)
    (a : PySem.W.nsIn K mainGlobals x = some (some (.ref f))) (l : K.lookup f = some ⟨oc, od, .func (PySem.W.fnOf x x (defArgs st) (defBody st) (defScope st) .none kV dc pm an cd ct), sl⟩) (c : PySem.W.codeIn K cd x = true) (k : PySem.W.keepIn K (.ref f) = true)
    (b : ∀ us : List Value, us.length = ps.length → bindArgs (PySem.W.fnOf x x (defArgs st) (defBody st) (defScope st) .none kV dc pm an cd ct) ⟨us, []⟩ = pure (ps.zip us)) : Df K mg x st ps :=
  ⟨f, _, ⟨⟨oc, od, .none, kV, dc, pm, an, cd, ct, sl, rfl, l, c⟩, k⟩, .all b, PySem.W.mg_of X G a⟩
theorem df_mkD {K : PySem.W.Frag} {h : Heap} {mg : Str → Option Value} {x : Str} {st : Stmt} {ps : List Str} {f D : Addr} {od an oD : Option Addr} {sl slD : Array (Option Value)} {oc kV dc pm cd ct cD : Value} {items : Array Value} {n : Nat} (X : K.In h) (G : h.Ns mainGlobals mg)
    (a : PySem.W.nsIn K mainGlobals x = some (some (.ref f))) (l : K.lookup f = some ⟨oc, od, .func (PySem.W.fnOf x x (defArgs st) (defBody st) (defScope st) (.ref D) kV dc pm an cd ct), sl⟩) (c : PySem.W.codeIn K cd x = true) (k : PySem.W.keepIn K (.ref f) = true)
    (lD : K.lookup D = some ⟨cD, oD, .seq items n, slD⟩)
    (b : ∀ us : List Value, us.length = ps.length → ∃ kk : Option (Array Value) → Sem (List (Str × Value)), bindArgs (PySem.W.fnOf x x (defArgs st) (defBody st) (defScope st) (.ref D) kV dc pm an cd ct) ⟨us, []⟩ = seqItems? (.ref D) >>= kk ∧ kk (some items) = pure (ps.zip us)) : Df K mg x st ps :=
  ⟨f, _, ⟨⟨oc, od, .ref D, kV, dc, pm, an, cd, ct, sl, rfl, l, c⟩, k⟩, fun s us hk hl => by
    rw [List.append_nil] at hl ⊢
    obtain ⟨kk, h1, h2⟩ := b us hl
    exact BindsTo.of_defaults rfl (hk _ _ lD) rfl h1 h2, PySem.W.mg_of X G a⟩
theorem law_end {pn : Str} {P : Program} {w : World} {K : PySem.W.Frag} {h : Heap} {mg : Str → Option Value} {st : Stmt} {f : Addr} {od an : Option Addr} {sl : Array (Option Value)} {oc kV dc pm cd ct : Value} {k : Nat} (X : K.In h) (G : h.Ns mainGlobals mg)
    (a : PySem.W.nsIn K mainGlobals "law" = some (some (.ref f))) (l : K.lookup f = some ⟨oc, od, .func (PySem.W.fnOf "law" "law" (defArgs st) (defBody st) (defScope st) .none kV dc pm an cd ct), sl⟩)
    (b : ∀ u : Value, bindArgs (PySem.W.fnOf "law" "law" (defArgs st) (defBody st) (defScope st) .none kV dc pm an cd ct) ⟨[u], []⟩ = pure [(pn, u)])
    (F : ∀ base : Heap, K.In base → base.Ns mainGlobals mg → Fn P w K mg base k "law" [pn] (spLaw K)) :
    ∃ fa, mg "law" = some (.ref fa) ∧ ∃ fd : FuncData, (∀ (s : Shared) (u : Value), BindsTo s fd ⟨[u], []⟩ [(pn, u)]) ∧ ∀ base : Heap, K.In base → base.Ns mainGlobals mg → FnOk P w K mg base (CXE P w) k fa fd [pn] (spLaw K) := by
  have hm := PySem.W.mg_of X G a
  refine ⟨f, hm, _, fun s u => .of_eq (b u), fun base kb nb => ?_⟩
  obtain ⟨f', fd', G', hm', _, _, _, _, _, lk⟩ := (F base kb nb).ex
  rw [hm] at hm'
  cases hm'
  rw [l] at lk
  cases lk
  exact G'
end Kw
set_option Elab.async false
set_option linter.all false
set_option maxRecDepth 100000
set_option maxHeartbeats 4000000
namespace Kw
open PySem PySem.Spec PyProof.Rows L2 PySem.Builtin PySem.Builtin.ObjectAttr PySem.Builtin.Getset_descriptor
section
variable {prog : Program} {w : World} {A : Around} {E : Value → Shared → Prop} {s : Shared} {K : PySem.W.Frag} {x C : Addr}
end
section
variable {X : Cx}
end
end Kw
set_option Elab.async false
set_option linter.all false
set_option maxRecDepth 100000
set_option maxHeartbeats 4000000
namespace Kw
open PySem PySem.Spec PyProof.Rows L2
mutual
inductive Dp (K : PySem.W.Frag) (H : Hp) : V → PyData → Prop
  | non : Dp K H .non .none
  | bl (b : Bool) : Dp K H (.bl b) (.bool b)
  | int (i : Int) : Dp K H (.int i) (.int i)
  | str (x : Str) : Dp K H (.str x) (.str x)
  | lst {p : Addr} {xs : List V} {ds : List PyData} : SqL K H p xs → Dps K H xs ds → Dp K H (.ref p) (.list ds)
  | tup {p : Addr} {xs : List V} {ds : List PyData} : SqT K H p xs → Dps K H xs ds → Dp K H (.ref p) (.tuple ds)
inductive Dps (K : PySem.W.Frag) (H : Hp) : List V → List PyData → Prop
  | nil : Dps K H [] []
  | cons {x : V} {xs : List V} {d : PyData} {ds : List PyData} : Dp K H x d → Dps K H xs ds → Dps K H (x :: xs) (d :: ds)
end
section
variable {X : Cx} {pins : List (Addr × Obj)} {σ : L2.St} {H : Hp} {s : Shared}
mutual
theorem Dp.reads (I : Inv X pins σ H s) : ∀ {x : V} {d : PyData} {u : Value}, Dp X.K H x d → RelV x u → ∃ as, Reads s.heap u d as
  | _, _, _, .non, r => by cases r; exact ⟨_, .none⟩
  | _, _, _, .bl b, r => by cases r; exact ⟨_, .bool b⟩
  | _, _, _, .int i, r => by obtain ⟨t, rfl⟩ := r; exact ⟨_, .int i t⟩
  | _, _, _, .str x, r => by obtain ⟨t, rfl⟩ := r; exact ⟨_, .str x t⟩
  | _, _, _, .lst h q, r => by
    cases r
    obtain ⟨its, r', pl, hz⟩ := I.list h
    obtain ⟨as, ra⟩ := Dps.reads I q r'
    obtain ⟨o, n, ho, hc, _, hd⟩ := pl
    exact ⟨_, .list ho hc hd ra⟩
  | _, _, _, .tup h q, r => by
    cases r
    obtain ⟨its, r', pl, hz⟩ := I.tuple h
    obtain ⟨as, ra⟩ := Dps.reads I q r'
    obtain ⟨o, ho, hc, n, hd⟩ := pl
    exact ⟨_, .tuple ho hc hd ra⟩
theorem Dps.reads (I : Inv X pins σ H s) : ∀ {xs : List V} {ds : List PyData} {us : List Value}, Dps X.K H xs ds → Vals xs us → ∃ as, ReadsAll s.heap us ds as
  | _, _, _, .nil, r => by cases r; exact ⟨_, .nil⟩
  | _, _, _, .cons h q, r => by
    cases r with
    | cons a b =>
      obtain ⟨as, ra⟩ := Dp.reads I h a
      obtain ⟨bs, rb⟩ := Dps.reads I q b
      exact ⟨_, .cons ra rb⟩
end
def rDp (K : PySem.W.Frag) (g : Bool → Bool) : V → V → Hp → VK → Prop := fun x y H Q => ∃ dx dy, Dp K H x dx ∧ Dp K H y dy ∧ dx.canLay0 = true ∧ dy.canLay0 = true ∧ min dx.depth dy.depth ≤ 60 ∧ Q (.bl (g (PyData.eqv dx dy))) H
theorem op_eqD {K : PySem.W.Frag} (hK : X.K = K) (hu : X.A.units + 100 < cLine) : OpR X (compareOp .Eq) (rDp K id) := by
  subst hK
  intro pins s σ H x y v u Q I rx ry h
  obtain ⟨dx, dy, hx, hy, cx, cy, dep, q⟩ := h
  obtain ⟨as, ra⟩ := hx.reads I rx
  obtain ⟨bs, rb⟩ := hy.reads I ry
  exact SeqAt.compareEq_reads ra rb cx cy (by omega) ⟨.bl (PyData.eqv dx dy), H, I, rfl, q⟩
theorem op_neD {K : PySem.W.Frag} (hK : X.K = K) (hu : X.A.units + 100 < cLine) : OpR X (compareOp .NotEq) (rDp K not) := by
  subst hK
  intro pins s σ H x y v u Q I rx ry h
  obtain ⟨dx, dy, hx, hy, cx, cy, dep, q⟩ := h
  obtain ⟨as, ra⟩ := hx.reads I rx
  obtain ⟨bs, rb⟩ := hy.reads I ry
  exact SeqAt.compareNe_reads ra rb cx cy (by omega) ⟨.bl (!PyData.eqv dx dy), H, I, rfl, q⟩
end
end Kw
set_option Elab.async false
set_option linter.all false
set_option maxRecDepth 100000
set_option maxHeartbeats 4000000
namespace Kw
open PySem PySem.Spec PyProof.Rows L2
section
variable {X : Cx} {pos : Pos} {k v : Expr} {x : Str} {i : Int}
end
end Kw
namespace Kw
open PySem PySem.Spec PyProof.Rows L2
section
variable {X : Cx}
end
section
variable {K : PySem.W.Frag} {H H' : Hp} {v : V} {t : Value}
end
end Kw
namespace Kw
open PySem PySem.Spec PyProof.Rows L2
section
variable {X : Cx} {k k' : Nat} {x : Str} {ps : List Str} {sp : Sp} {E : XK} {p pos : Pos} {e : Expr} {es : List Expr} {t : TA} {dv : V}
end
end Kw
namespace Kw
end Kw
namespace Kw
open PySem PySem.Spec PyProof.Rows L2
end Kw
namespace Kw
open PySem PySem.Spec PyProof.Rows L2
theorem newO {H : Hp} {p : Addr} (hp : H p = none) (o : HO) : ∃ H', upd H p o = H' ∧ Same H H' ∧ H' p = some o := ⟨_, rfl, same_new hp o, upd_same⟩
end Kw
namespace Kw
open PySem PySem.Spec PyProof.Rows L2
end Kw
theorem Kw.u100 {k : Nat} {A : PySem.Around} (r : L2.Room k A) : A.units + 100 < PySem.cLine := by have := r.un; omega
namespace Kw
open PySem PySem.Spec PyProof.Rows L2
end Kw
set_option Elab.async false
set_option linter.all false
set_option maxRecDepth 100000
set_option maxHeartbeats 4000000
namespace Kw
open PySem PySem.Spec PyProof.Rows L2
def cxC (X : Cx) (N : List Str) (scope : Scope) (cl : List (Str × Addr)) (C : Addr) (s : Shared) (H : Hp) (fp : List Addr) : Cx :=
  { X with N := N, s₀ := s, H₀ := H, env := compEnvC scope cl C X.env, outer := X.stack, stack := X.stack, ex := fp, fn := fun _ => false, pn := [], xe := fun _ _ => False }
section
variable {X : Cx} {pins : List (Addr × Obj)} {σ : L2.St} {H : Hp} {s : Shared} {N ns : List Str} {scope : Scope} {cl : List (Str × Addr)} {C : Addr} {fp : List Addr} {x : Str} {idx : List Nat}
theorem okC (I : Inv X pins σ H s) (f : ∀ b ∈ fp, FpOk X pins H b) (lt : ∀ b ∈ fp, b < s.heap.objs.size) (hC : s.heap.objs.size ≤ C) (hkind : scope.kind = .function) (hcl : ∀ y c, cl.lookup y = some c → X.env.cells.lookup y = some c)
    (hfr : ∀ y, ((compEnvC scope cl C X.env).kindOf y = some .cell ∨ (compEnvC scope cl C X.env).kindOf y = some .free) → ∃ c, cl.lookup y = some c) : (cxC X N scope cl C s H fp).Ok where
  mod := I.ok.mod
  kind := hkind
  glob := I.ok.glob
  blt := I.ok.blt
  above := hC
  inj := fun x y c e1 e2 => I.ok.inj x y c (hcl _ _ e1) (hcl _ _ e2)
  has := hfr
  cab := fun _ _ h => nomatch h
  hd := I.ok.hd
  frames := I.ok.frames
  stk := .inl rfl
  exf := fun b hb => ⟨Nat.ne_of_lt (Nat.lt_of_lt_of_le (lt b hb) hC), fun x c e => (f b hb).2.2.2.2.1 x c (hcl _ _ e)⟩
  bs := I.bs
  bsz := Nat.le_trans I.ok.bsz I.sz
  noex := fun b o e hb => by
    rcases (f b hb).2.2.2.1 with z | z
    · exact I.ok.noex b o e z
    · exact absurd (Nat.lt_of_lt_of_le (Heap.lt_size e) (Nat.le_trans I.ok.bsz z)) (Nat.lt_irrefl _)
  exfs := fun b hb hs => by
    rcases List.mem_cons.mp (I.stkSub b hs) with z | z
    · exact (f b hb).2.1 z
    · exact (f b hb).2.2.1 z
  funs := I.stack
  frf := I.stkFree
def Capt (X : Cx) (scope : Scope) (cl : List (Str × Addr)) (ns : List Str) (idx : List Nat) : Prop :=
  idx.length = ns.length ∧ ∀ (k : Nat) (y : Str), ns[k]? = some y → ∃ j c, idx[k]? = some j ∧ X.N[j]? = some y ∧ X.env.kindOf y = some .cell ∧ X.env.cells.lookup y = some c ∧ cl.lookup y = some c ∧ ((relabel scope X.env).names.lookup y = some .cell ∨ (relabel scope X.env).names.lookup y = some .free)
def stIn (v : Option V) (idx : List Nat) (σ : L2.St) : L2.St := v :: idx.map fun j => (σ[j]?).join
theorem invC {D : Addr} {h1 : Heap} {t : Nat} {o : Obj} {mC : Str → Option Value} (I : Inv X pins σ H s) (ok : (cxC X (x :: ns) scope cl C s H fp).Ok) (cap : Capt X scope cl ns idx) (hcl : ∀ y c, cl.lookup y = some c → X.env.cells.lookup y = some c)
    (keep : ∀ b u, s.heap.get? b = some u → h1.get? b = some u) (hC : s.heap.objs.size ≤ C) (hns : h1.Ns C mC) (hD : h1.get? D = some o) (hDs : s.heap.objs.size ≤ D) (hDC : D ≠ C) (hod : ∀ v, o.data ≠ .cell v) (hx : (relabel scope X.env).names.lookup x = some .local) :
    Inv (cxC X (x :: ns) scope cl C s H fp) [(D, o)] (stIn none idx σ) H { s with heap := h1, toks := t } := by
  have cellK : ∀ y c, cl.lookup y = some c → ∀ v, s.heap.IsCell c v → h1.IsCell c v := fun y c e v ⟨o, ho, hd⟩ => ⟨o, keep _ _ ho, hd⟩
  refine ⟨ok, rfl, I.bare, Un.kept keep, ⟨mC, hns, fun i y v e1 e2 e3 => ?_⟩, fun y c e => ?_, I.hok.fresh hC, fun y c e => I.freeC y c (hcl y c e), fun p hp => ?_, I.hok.kept keep, ?_⟩
  · cases i with
    | zero => cases e2
    | succ k =>
      have e1' : ns[k]? = some y := e1
      obtain ⟨j, c, h1', h2, h3, h4, h5, h6⟩ := cap.2 k y e1'
      have e2' : (idx.map fun j => (σ[j]?).join)[k]? = some (some v) := e2
      rw [List.getElem?_map, h1'] at e2'
      have e4 : (σ[j]?).join = some v := Option.some.inj e2'
      have e5 : σ[j]? = some (some v) := by
        cases q : σ[j]? with
        | none => rw [q] at e4; cases e4
        | some z => rw [q] at e4; exact congrArg some e4
      obtain ⟨m, hn, hl⟩ := I.loc
      obtain ⟨u, r, lk⟩ := hl j y v h2 e5 (.inr (.inl h3))
      refine ⟨u, r, .inr ⟨h6, c, h5, ?_⟩⟩
      rcases lk with ⟨z, _⟩ | ⟨_, c', z, ic⟩
      · rw [h3] at z; cases z
      · rw [h4] at z; cases z
        exact cellK y c h5 _ ic
  · obtain ⟨v, ic⟩ := I.cell y c (hcl y c e)
    exact ⟨v, cellK y c e v ic⟩
  · have e : p = (D, o) := by simpa [cxC] using hp
    subst e
    refine ⟨hD, I.hok.fresh hDs, hDC, fun hs => ?_, hod⟩
    obtain ⟨_, o', ho', _⟩ := I.stack.mem hs
    exact absurd (Heap.lt_size ho') (Nat.not_lt.mpr hDs)
  · unfold stIn
    rw [List.length_cons, List.length_map, cap.1]
    rfl
end
abbrev NoE : Value → Shared → Prop := fun _ _ => False
abbrev testsOf (ifs : List Expr) (env : Env) : Sem Bool := forIn ifs true fun c r => if r = true then do let ok ← isTrue c env (eval c env); pure (ForInStep.yield ok) else pure (ForInStep.yield r)
def PTs (X : Cx) (ifs : List Expr) (t : TT) : Prop :=
  ∀ (pins : List (Addr × Obj)) (s : Shared) (σ : L2.St) (H : Hp) (Q : Bool → Hp → Prop), Inv X pins σ H s → t σ H Q → wpAny (model X.prog X.w) X.A (testsOf ifs X.env) (TP X pins σ Q) X.xe s
def ttNil : TT := fun _ H Q => Q true H
theorem pts_nil {X : Cx} : PTs X [] ttNil := fun _ _ _ H _ I h => wpAny_tests_nil ⟨H, I, h⟩
theorem lc_loop {prog : Program} {w : World} {A : Around} {R : Result → Shared → Prop} {s : Shared} {elt target iter : Expr} {ifs : List Expr} {scope : Scope} {pos : Pos} {it acc : Value} {env : Env} (Z : Nat → Shared → Prop)
    (turn : ∀ n z, Z n z → wpAny (model prog w) A (pyNext it) (fun r z1 => match r with
      | none => R (.ok .next) z1
      | some v => wpAny (model prog w) A (letOwnedTupleGo target it v) (fun _ z2 => wpAny (model prog w) A (assign target env v) (fun _ z3 => wpAny (model prog w) A (testsOf ifs env) (fun ok z4 => if ok = true then
          wpAny (model prog w) A (eval elt env) (fun y z5 => wpAny (model prog w) A (call (.builtin "list.append") [acc, y]) (fun _ z6 => ∃ m, m < n ∧ Z m z6) NoE z5) NoE z4 else ∃ m, m < n ∧ Z m z4) NoE z3) NoE z2) NoE z1) NoE z)
    (n : Nat) (h : Z n s) : codeAny (model prog w) A (.compLoop (.ListComp elt [⟨target, iter, ifs, 0⟩] scope pos) 0 it acc env) R s := by
  refine codeAny_loop rfl Z (fun n z hZ => ?_) n h
  show wpAny _ A ((compTurn (.ListComp elt [⟨target, iter, ifs, 0⟩] scope pos) 0 it acc env).onRaise (fun q => do noteFrame q env; theTreesLotGoes q)) _ _ z
  refine wpAny_noted ?_
  rw [compTurn_list]
  refine wpAny_bind (wpAny_standAt (wpAny_bind (wpAny_mono (turn n z hZ) (fun r z1 k1 => ?_) fun _ _ q => q.elim)))
  cases r with
  | none => exact wpAny_pure k1
  | some v =>
    refine wpAny_bind (wpAny_mono k1 (fun _ z2 k2 => ?_) fun _ _ q => q.elim)
    refine wpAny_bind (wpAny_mono k2 (fun _ z3 k3 => ?_) fun _ _ q => q.elim)
    refine wpAny_bind (wpAny_mono k3 (fun ok z4 k4 => ?_) fun _ _ q => q.elim)
    cases ok with
    | false => exact wpAny_pure ⟨rfl, k4⟩
    | true =>
      refine wpAny_bind (wpAny_bind (wpAny_mono (show wpAny _ _ _ _ _ _ from k4) (fun y z5 k5 => ?_) fun _ _ q => q.elim))
      exact wpAny_bind (wpAny_mono k5 (fun _ z6 k6 => wpAny_pure (wpAny_pure ⟨rfl, k6⟩)) fun _ _ q => q.elim)
def LcBody (J : It) (idx : List Nat) (te : TE) (σ : L2.St) (Q : VK) (H1 : Hp) : Prop := ∃ W : Nat → Nat → List V → Hp → Prop, (∃ m, W 0 m [] H1) ∧ ∀ i m ys H, W i m ys H → ys.length ≤ sizeLine ∧
  ((J.stop i H ∧ ∀ p, H p = none → Q (.ref p) (upd H p (.lst ys))) ∨ (J.go i H ∧ ∀ y H', J.yld i H y H' → te (stIn (some y) idx σ) H' fun v H2 => ∃ m', m' < m ∧ W (i + 1) m' (ys ++ [v]) H2))
def tLc (wi : TI) (idx : List Nat) (te : TE) : TE := fun σ H Q => wi σ H fun J H1 => LcBody J idx te σ Q H1
def LcBodyT (J : It) (idx : List Nat) (tt : TT) (te : TE) (σ : L2.St) (Q : VK) (H1 : Hp) : Prop := ∃ W : Nat → Nat → List V → Hp → Prop, (∃ m, W 0 m [] H1) ∧ ∀ i m ys H, W i m ys H → ys.length ≤ sizeLine ∧
  ((J.stop i H ∧ ∀ p, H p = none → Q (.ref p) (upd H p (.lst ys))) ∨ (J.go i H ∧ ∀ y H', J.yld i H y H' → tt (stIn (some y) idx σ) H' fun b H3 => if b = true then te (stIn (some y) idx σ) H3 fun v H2 => ∃ m', m' < m ∧ W (i + 1) m' (ys ++ [v]) H2
    else ∃ m', m' < m ∧ W (i + 1) m' ys H3))
theorem LcBody.toT {J : It} {idx : List Nat} {te : TE} {σ : L2.St} {Q : VK} {H1 : Hp} (h : LcBody J idx te σ Q H1) : LcBodyT J idx ttNil te σ Q H1 := by
  obtain ⟨W, w0, turn⟩ := h
  refine ⟨W, w0, fun i m ys H w => ?_⟩
  obtain ⟨hz, h⟩ := turn i m ys H w
  refine ⟨hz, h.imp id fun h => ⟨h.1, fun y H' yl => ?_⟩⟩
  show (if true = true then te (stIn (some y) idx σ) H' (fun v H2 => ∃ m', m' < m ∧ W (i + 1) m' (ys ++ [v]) H2) else ∃ m', m' < m ∧ W (i + 1) m' ys H')
  rw [if_pos rfl]
  exact h.2 y H' yl
section
variable {X : Cx} {elt iter : Expr} {ifs : List Expr} {x : Str} {px pos : Pos} {scope : Scope} {cl : List (Str × Addr)} {wi : TI} {tt : TT} {te : TE} {ns : List Str} {idx : List Nat}
structure LcEnd (X : Cx) (fp : List Addr) (H2 H4 : Hp) (s2 s5 : Shared) (C D : Addr) (ys : List V) : Prop where
  dn : D = s2.heap.objs.size
  cn : s2.heap.objs.size ≤ C
  dc : D ≠ C
  un : Un (frs X.stack) fp H2 H4 s2.heap s5.heap
  hok : HOk X.prog X.w H4 s5.heap
  cf : H4 C = none
  df : H4 D = none
  os : s5.os = s2.os
  bare : AllBare s5.gens
  ns : ∃ m, s5.heap.Ns C m
  obj : ∃ us, Vals ys us ∧ s5.heap.get? D = some (LCg.lst us)
  len : ys.length ≤ sizeLine
theorem lc_main (hc : X.calm = true) (hi : PI X (.Name x px) iter wi) (hclos : closureFor scope X.env = pure cl) (hcell : ∀ y ∈ scope.names, y.2 ≠ .cell) (hkind : scope.kind = .function)
    (hnames : ∀ y ∈ scope.names, y.2 = .local → scope.names.lookup y.1 = some .local) (hx : scope.names.lookup x = some .local) (nd : (x :: ns).Nodup) (cap : Capt X scope cl ns idx)
    (hcl : ∀ y c, cl.lookup y = some c → X.env.cells.lookup y = some c) (hfr : ∀ y, ((relabel scope X.env).names.lookup y = some .cell ∨ (relabel scope X.env).names.lookup y = some .free) → ∃ c, cl.lookup y = some c)
    (htt : ∀ (C : Addr) (s : Shared) (H : Hp) (fp : List Addr), PTs (cxC X (x :: ns) scope cl C s H fp) ifs tt) (hel : ∀ (C : Addr) (s : Shared) (H : Hp) (fp : List Addr), PE (cxC X (x :: ns) scope cl C s H fp) elt te)
    {pins : List (Addr × Obj)} {σ : L2.St} {Q : VK} {itv : Value} {s2 : Shared} {E : Value → Shared → Prop} {RR : Value → Addr → Result → Shared → Prop} (h2 : PIE X pins σ (.Name x px) (fun J H1 => LcBodyT J idx tt te σ Q H1) itv s2)
    (hRR : ∀ fp H2 H4 s5 C D ys, Inv X pins σ H2 s2 → (∀ b ∈ fp, FpOk X pins H2 b) → LcEnd X fp H2 H4 s2 s5 C D ys → Q (.ref D) (upd H4 D (.lst ys)) → RR (.ref D) C (.ok .next) s5) :
    wpAny (model X.prog X.w) X.A (newList []) (fun acc s3 => wpAny (model X.prog X.w) X.A (newFunctionEnv scope X.env.globals cl [] X.env.qual none .none (some X.env)) (fun cenv s4 =>
      codeAny (model X.prog X.w) X.A (.compStart (.ListComp elt [⟨.Name x px, iter, ifs, 0⟩] scope pos) 0 itv acc { cenv with scope := relabel scope X.env }) (RR acc cenv.locals) s4) E s3) E s2 := by
  obtain ⟨it, fp, tn, J, H2, e, I2, T, st2, f2, W, ⟨m0, w0⟩, turn⟩ := h2
  subst e
  refine wpAny_newObj_type (wpAny_newFunctionEnv hcell (by intro y hy; simp at hy) (fun h1 hns1 hsb1 => ?_) hkind)
  dsimp only at hns1 hsb1 ⊢
  generalize hH2 : s2.heap.push { cls := .type "list", dict := none, data := .seq ([] : List Value).toArray } = g2 at hns1 hsb1 ⊢
  have hC : g2.objs.size = s2.heap.objs.size + 1 := by rw [← hH2, Heap.size_push]
  have hDC : s2.heap.objs.size ≠ g2.objs.size := by rw [hC]; exact Nat.ne_of_lt (Nat.lt_succ_self _)
  have hCle : s2.heap.objs.size ≤ g2.objs.size := by rw [hC]; exact Nat.le_succ _
  have keep1 : ∀ b o, s2.heap.get? b = some o → h1.get? b = some o := fun b o e => hsb1.extBut b o (Nat.ne_of_lt (Nat.lt_of_lt_of_le (Heap.lt_size e) hCle)) (Heap.get?_push_of_some _ (hH2 ▸ Heap.get?_push_of_some _ e))
  have hacc : h1.get? s2.heap.objs.size = some { cls := .type "list", data := .seq ([] : List Value).toArray 0 } := hsb1.extBut _ _ hDC (Heap.get?_push_of_some _ (hH2 ▸ Heap.get?_push_size _ rfl))
  have lt : ∀ b ∈ fp, b < s2.heap.objs.size := fun b hb => by
    obtain ⟨o, e, _⟩ := T.obj _ _ st2 b hb
    exact Heap.lt_size e
  have hxr : (relabel scope X.env).names.lookup x = some .local := lookup_relabel_local hx
  have ok := okC (N := x :: ns) (scope := scope) (cl := cl) (C := g2.objs.size) I2 f2 lt hCle hkind hcl hfr
  have I3 := invC (D := s2.heap.objs.size) (t := s2.toks + ([] : List (Str × Value)).length) I2 ok cap hcl keep1 hCle hns1 hacc (Nat.le_refl _) hDC (fun v z => by cases z) hxr
  have fC : ∀ {H' : Hp} {pl : List (Addr × Obj)}, (∀ p ∈ pl, p.1 = s2.heap.objs.size) → (∀ b ∈ fp, H' b = none) → ∀ b ∈ fp, FpOk (cxC X (x :: ns) scope cl g2.objs.size s2 H2 fp) pl H' b := fun {H' pl} hpl hn b hb =>
    ⟨hn b hb, (ok.exf b hb).1, fun z => ok.exfs b hb z, .inl hb, (ok.exf b hb).2, fun p hp z => by
      have q := hpl p (by simpa [cxC] using hp)
      have := lt b hb
      rw [← z, q] at this
      exact Nat.lt_irrefl _ this⟩
  have lnc : ∀ us : List Value, ∀ v, (LCg.lst us).data ≠ .cell v := fun us v z => by cases z
  have loop : ∀ s3 : Shared, s3 = { s2 with heap := h1, toks := s2.toks + ([] : List (Str × Value)).length } →
      codeAny (model X.prog X.w) X.A (.compLoop (.ListComp elt [⟨.Name x px, iter, ifs, 0⟩] scope pos) 0 (.ref it) (.ref s2.heap.objs.size) (compEnvC scope cl g2.objs.size X.env))
        (RR (.ref s2.heap.objs.size) g2.objs.size) s3 := by
    rintro s3 rfl
    refine lc_loop (fun n s' => ∃ i ys us r H', Inv (cxC X (x :: ns) scope cl g2.objs.size s2 H2 fp) [(s2.heap.objs.size, LCg.lst us)] (stIn r idx σ) H' s' ∧ tn i s'.heap ∧ (∀ b ∈ fp, H' b = none) ∧ Vals ys us ∧ W i n ys H') ?_ m0
      ⟨0, [], [], none, H2, I3, T.keep _ _ _ st2 fun b _ o e => keep1 b o e, fun b hb => (f2 b hb).1, .nil, w0⟩
    rintro n s4 ⟨i, ys, us, r, H4, I4, st4, fr4, vs4, w4⟩
    obtain ⟨hz, ⟨stop, qn⟩ | ⟨go, step⟩⟩ := turn i n ys H4 w4
    · refine thn (T.done (cxC X (x :: ns) scope cl g2.objs.size s2 H2 fp) rfl rfl rfl hc i _ s4 _ H4 NoE I4 (fC (fun p hp => by rw [List.mem_singleton.mp hp]) fr4) st4 stop) fun r5 s5 ⟨hr5, I5⟩ => ?_
      subst hr5
      obtain ⟨mC, hnC, _⟩ := I5.loc
      obtain ⟨pD1, pD2, _⟩ := I5.pin (s2.heap.objs.size, LCg.lst us) (List.mem_append_right _ (List.mem_singleton.mpr rfl))
      exact hRR fp H2 H4 s5 g2.objs.size s2.heap.objs.size ys I2 f2 ⟨rfl, hCle, hDC, I5.base, I5.hok, I5.free, pD2, I5.os, I5.bare, ⟨mC, hnC⟩, ⟨us, vs4, pD1⟩, hz⟩ (qn _ pD2)
    · refine thn (T.item (cxC X (x :: ns) scope cl g2.objs.size s2 H2 fp) rfl rfl rfl hc i _ s4 _ H4 NoE I4 (fC (fun p hp => by rw [List.mem_singleton.mp hp]) fr4) st4 go) fun r5 s5 ⟨u, hr5, k5⟩ => ?_
      subst hr5
      refine thn k5 fun _ s6 ⟨y, H6, I6, r6, y6, st6, fr6⟩ => ?_
      have I6' := I6.pinned (fC (fun p hp => by rw [List.mem_singleton.mp hp]) fr6) (T.obj _ _ st6)
      have G := pg_name (X := cxC X (x :: ns) scope cl g2.objs.size s2 H2 fp) (pos := px) (i := 0) (x := x) nd rfl (.inl hxr) (.inr hxr)
      refine thn (G _ s6 _ H6 y u (fun σ' H' => σ' = stIn (some y) idx σ ∧ H' = H6) I6' r6 ⟨rfl, rfl⟩) fun _ s7 ⟨σ7, H7, I7, e7, eH⟩ => ?_
      subst e7 eH
      refine thn (htt g2.objs.size s2 H2 fp _ s7 _ _ _ I7 (step y _ y6)) fun ok s71 ⟨H71, I71, k71⟩ => ?_
      cases ok with
      | false =>
        obtain ⟨m', lm, w8⟩ := (show ∃ m', m' < n ∧ W (i + 1) m' ys H71 from k71)
        have kf : ∀ b ∈ fp, ∀ o, s6.heap.get? b = some o → s71.heap.get? b = some o ∧ H71 b = none := fun b hb o e => by
          have q := I71.pin (b, o) (List.mem_append_right _ (List.mem_append_right _ (mem_pinsAt hb e)))
          exact ⟨q.1, q.2.1⟩
        obtain ⟨pD1, pD2, pD3, pD4, _⟩ := I71.pin (s2.heap.objs.size, LCg.lst us) (by simp [cxC])
        refine ⟨m', lm, i + 1, ys, us, some y, H71, I71.pins_of fun p hp => ?_, ?_, fun b hb => ?_, vs4, w8⟩
        · rw [List.mem_singleton.mp hp]
          exact ⟨pD1, pD2, pD3, pD4, lnc _⟩
        · exact T.keep _ _ _ st6 fun b hb o e => (kf b hb o e).1
        · obtain ⟨o, e, _⟩ := T.obj _ _ st6 b hb
          exact (kf b hb o e).2
      | true =>
      refine thn (hel g2.objs.size s2 H2 fp _ s71 _ _ _ I71 k71) fun y8 s8 ⟨v, H8, I8, r8, m', lm, w8⟩ => ?_
      obtain ⟨pD1, pD2, pD3, pD4, _⟩ := I8.pin (s2.heap.objs.size, LCg.lst us) (by simp [cxC])
      have kf : ∀ b ∈ fp, ∀ o, s6.heap.get? b = some o → s8.heap.get? b = some o ∧ H8 b = none := fun b hb o e => by
        have q := I8.pin (b, o) (List.mem_append_right _ (List.mem_append_right _ (mem_pinsAt hb e)))
        exact ⟨q.1, q.2.1⟩
      refine append_at (hsz := by show us.toArray.size ≤ sizeLine; rw [List.size_toArray, ← vs4.length]; exact hz) pD1 fun h9 sb9 hD9 => ?_
      have I8' : Inv (cxC X (x :: ns) scope cl g2.objs.size s2 H2 fp) [] (stIn (some y) idx σ) H8 s8 := I8.pins_of fun p hp => nomatch hp
      have I9 := I8'.turned (it := s2.heap.objs.size) (h' := h9) (t' := s8.toks) (fun b o hb e => (sb9.2 b hb).trans e) pD2 pD3 (.inr (Nat.le_refl _)) (fun y c e z => by
          obtain ⟨v, q⟩ := I2.cell y c (hcl y c e)
          exact absurd q.lt (by rw [z]; exact Nat.lt_irrefl _)) (fun p hp => by simp [cxC] at hp)
      refine ⟨m', lm, i + 1, ys ++ [v], us ++ [y8], some y, H8, I9.pins_of fun p hp => ?_, ?_, fun b hb => ?_, vs4.append (.cons r8 .nil), w8⟩
      · rw [List.mem_singleton.mp hp]
        exact ⟨hD9.trans (congrArg some (LCg.lst_snoc us y8)), pD2, pD3, pD4, lnc _⟩
      · exact T.keep _ _ _ st6 fun b hb o e => (sb9.2 b (Nat.ne_of_lt (lt b hb))).trans (kf b hb o e).1
      · obtain ⟨o, e, _⟩ := T.obj _ _ st6 b hb
        exact (kf b hb o e).2
  exact codeAny_compStart_list (loop _ rfl) (T.self _ 0 _ _ _ (T.keep _ _ _ st2 fun b _ o e => keep1 b o e) (loop _ rfl))
theorem LcEnd.inv {fp : List Addr} {H2 H4 : Hp} {s2 s5 : Shared} {C D : Addr} {ys : List V} {pins : List (Addr × Obj)} {σ : L2.St} {h' : Heap} (L : LcEnd X fp H2 H4 s2 s5 C D ys) (I2 : Inv X pins σ H2 s2) (f2 : ∀ b ∈ fp, FpOk X pins H2 b) (sb : Heap.SameBut C s5.heap h') :
    Inv X pins σ (upd H4 D (.lst ys)) { s5 with heap := h' } := by
  obtain ⟨rfl, hCle, hDC, U, hok, cf, pD2, eo, bare, ⟨mC, hnC⟩, ⟨us, vs4, pD1⟩, hz⟩ := L
  have neC : ∀ b o, s2.heap.get? b = some o → b ≠ C := fun b o e => Nat.ne_of_lt (Nat.lt_of_lt_of_le (Heap.lt_size e) hCle)
  have U' : Un (frs X.stack) fp H2 H4 s2.heap h' := ⟨fun b o e n hb hx => (sb.2 b (neC b o e)).trans (U.keep b o e n hb hx), fun b o e n hb hx => by
      obtain ⟨sl, q⟩ := U.slot b o e n hb hx
      exact ⟨sl, (sb.2 b (neC b o e)).trans q⟩, U.free, fun b o e hx => by
      obtain ⟨o', q⟩ := U.there b o e hx
      exact ⟨o', (sb.2 b (neC b o e)).trans q⟩, U.tups, U.frzs, U.tbls⟩
  have hok' : HOk X.prog X.w H4 h' := fun a o e => by
    refine (hok a o e).stay (fun b u hb q => (sb.2 b ?_).trans q) (fun _ z => z) fun _ _ z => z
    rintro rfl
    rcases hb with hb | hb
    · rw [← hb, cf] at e; cases e
    · rw [cf] at hb; cases hb
  have I6 := I2.call (ch := fp) (h' := h') (g' := s5.gens) (t' := s5.toks) (d' := s5.drawn) U' hok' bare fun b hb => ⟨(f2 b hb).2.2.2.1, (f2 b hb).2.1, (f2 b hb).2.2.2.2.1, (f2 b hb).2.2.2.2.2⟩
  have I7 := Inv.adopt (x := s2.heap.objs.size) (o := .lst ys) (fun y c e z => by
      obtain ⟨v, q⟩ := I2.cell y c e
      exact absurd q.lt (by rw [z]; exact Nat.lt_irrefl _)) I6 (Heap.get?_none_of_le I2.sz) pD2 (Nat.ne_of_gt I2.lt) (fun p hp z => by
      have := Heap.lt_size (I2.pin p hp).1
      rw [z] at this
      exact Nat.lt_irrefl _ this) ⟨hz, us, us.length, vs4, (sb.2 _ hDC).trans pD1⟩
  rw [← eo] at I7
  exact I7
theorem pie_toT {pins : List (Addr × Obj)} {σ : L2.St} {tg : Expr} {Q : VK} {itv : Value} {s2 : Shared} (h : PIE X pins σ tg (fun J H1 => LcBody J idx te σ Q H1) itv s2) : PIE X pins σ tg (fun J H1 => LcBodyT J idx ttNil te σ Q H1) itv s2 := by
  obtain ⟨it, fp, tn, J, H', a, b, c, d, e, q⟩ := h
  exact ⟨it, fp, tn, J, H', a, b, c, d, e, q.toT⟩
theorem pe_lc (hc : X.calm = true) (hi : PI X (.Name x px) iter wi) (hclos : closureFor scope X.env = pure cl) (hcell : ∀ y ∈ scope.names, y.2 ≠ .cell) (hkind : scope.kind = .function)
    (hnames : ∀ y ∈ scope.names, y.2 = .local → scope.names.lookup y.1 = some .local) (hx : scope.names.lookup x = some .local) (nd : (x :: ns).Nodup) (cap : Capt X scope cl ns idx)
    (hcl : ∀ y c, cl.lookup y = some c → X.env.cells.lookup y = some c) (hfr : ∀ y, ((relabel scope X.env).names.lookup y = some .cell ∨ (relabel scope X.env).names.lookup y = some .free) → ∃ c, cl.lookup y = some c)
    (hel : ∀ (C : Addr) (s : Shared) (H : Hp) (fp : List Addr), PE (cxC X (x :: ns) scope cl C s H fp) elt te) (hs : ∀ v, foldedSetIterable iter X.env v = pure v := by intro _; rfl) :
    PE X (.ListComp elt [⟨.Name x px, iter, [], 0⟩] scope pos) (tLc wi idx te) := by
  intro pins s σ H Q I h
  rw [eval_ListComp]
  refine wpAny_comprehension_free (use := none) rfl hs hclos hkind hnames (thn (hi pins s σ H _ I h) fun v s1 h1 => thn h1 fun itv s2 h2 => ?_)
  refine lc_main (tt := ttNil) hc hi hclos hcell hkind hnames hx nd cap hcl hfr (fun _ _ _ _ => pts_nil) hel (RR := fun acc C => compPost (model X.prog X.w) X.A X.xe none (EP X pins σ Q) acc C) (pie_toT h2) fun fp H2 H4 s5 C D ys I2 f2 L q => ?_
  obtain ⟨mC, hnC⟩ := L.ns
  exact ⟨mC, hnC, fun h' sb => ⟨.ref D, _, L.inv I2 f2 sb, rfl, q⟩⟩
end
end Kw
set_option Elab.async false
set_option linter.all false
set_option maxRecDepth 100000
set_option maxHeartbeats 4000000
namespace Kw
open PySem PySem.Spec PyProof.Rows L2
section
variable {X : Cx}
end
end Kw
namespace Kw
open PySem PySem.Spec PyProof.Rows L2
section
variable {prog : Program} {w : World} {A : Around} {E : Value → Shared → Prop} {s : Shared} {I l S : Addr} {items : Array Value}
end
end Kw
namespace Kw
open PySem PySem.Spec PyProof.Rows L2
section
variable {X : Cx}
end
end Kw
set_option Elab.async false
set_option linter.all false
set_option maxRecDepth 100000
set_option maxHeartbeats 4000000
namespace Kw
open PySem PySem.Spec PyProof.Rows L2
section
variable {X : Cx}
end
end Kw
set_option Elab.async false
set_option linter.all false
set_option maxRecDepth 100000
set_option maxHeartbeats 4000000
namespace Kw
open PySem PySem.Spec PyProof.Rows L2
section
variable {K : PySem.W.Frag} {idx : List Nat} {te : TE} {σ : L2.St} {H : Hp} {Q : VK}
theorem lc_list {a : Addr} {xs : List V} (Pv : Nat → List V → Hp → Prop) (h0 : Pv 0 [] H) (hz : xs.length ≤ sizeLine) (hy : ∀ i ys H, Pv i ys H → ys.length = i) (hl : ∀ i ys H, Pv i ys H → SqL K H a xs)
    (hs : ∀ i x ys H (Q' : VK), xs[i]? = some x → Pv i ys H → (∀ v H2, Pv (i + 1) (ys ++ [v]) H2 → Q' v H2) → te (stIn (some x) idx σ) H Q') (hd : ∀ ys H, Pv xs.length ys H → ∀ p, H p = none → Q (.ref p) (upd H p (.lst ys))) :
    LcBody (Itl K a) idx te σ Q H := by
  refine ⟨fun i m ys H => m = xs.length - i ∧ i ≤ xs.length ∧ Pv i ys H, ⟨xs.length, by simp, Nat.zero_le _, h0⟩, ?_⟩
  rintro i m ys H ⟨rfl, hi, p⟩
  have q := hl i ys H p
  refine ⟨by rw [hy i ys H p]; omega, ?_⟩
  by_cases hlt : i < xs.length
  · refine .inr ⟨⟨xs, xs[i], q, by simp [hlt]⟩, fun y H' yl => ?_⟩
    obtain ⟨e, yl⟩ := yl
    subst e
    exact hs i y ys _ _ (yl xs q) p fun v H2 z => ⟨xs.length - (i + 1), by omega, rfl, hlt, z⟩
  · have e : i = xs.length := by omega
    subst e
    exact .inl ⟨⟨xs, q, Nat.le_refl _⟩, hd ys H p⟩
end
theorem no_free {names : List (Str × NameKind)} {cl : List (Str × Addr)} (h : names.all (fun z => z.2 != .cell && z.2 != .free) = true) : ∀ y, (names.lookup y = some .cell ∨ names.lookup y = some .free) → ∃ c, cl.lookup y = some c := fun y hy => by
  have mem : ∀ (l : List (Str × NameKind)) k, l.lookup y = some k → ∃ z ∈ l, z.2 = k := fun l => by
    induction l with
    | nil => intro k e; cases e
    | cons a r ih =>
      intro k e
      rw [List.lookup_cons] at e
      split at e
      · exact ⟨a, List.mem_cons_self, Option.some.inj e⟩
      · obtain ⟨z, hz, ez⟩ := ih k e
        exact ⟨z, List.mem_cons_of_mem _ hz, ez⟩
  rcases hy with e | e
  all_goals
    obtain ⟨z, hz, ez⟩ := mem _ _ e
    have := List.all_eq_true.mp h z hz
    rw [ez] at this
    simp at this
theorem cap_none {X : Cx} {scope : Scope} {cl : List (Str × Addr)} : Capt X scope cl [] [] := ⟨rfl, fun k y h => by simp at h⟩
end Kw
namespace Kw
open PySem PySem.Spec PyProof.Rows L2
section
variable {K : PySem.W.Frag} {H H' : Hp} {b : Addr} {v : V}
end
end Kw
namespace Kw
open PySem PySem.Spec PyProof.Rows L2
section
variable {K : PySem.W.Frag} {H H' : Hp} {b c : Addr} {x : V}
end
end Kw
namespace Kw
open PySem PySem.Spec PyProof.Rows L2
end Kw
theorem Kw.ixT {X : L2.Cx} {K : PySem.W.Frag} (hK : X.K = K) : L2.IxR X (L2.rIxT K) := by
  subst hK
  exact L2.ix_tup
namespace Kw
open PySem PySem.Spec PyProof.Rows L2
section
variable {K : PySem.W.Frag} {H : Hp} {b : Addr} {x : V}
end
end Kw
set_option maxRecDepth 100000
namespace Kw
theorem q_of {n d : Int} (hd : 0 < d) (hg : Int.gcd n d = 1) : (Rat.divInt n d).num = n ∧ (((Rat.divInt n d).den : Nat) : Int) = d := by
  rw [Rat.num_divInt, Rat.den_divInt, Int.gcd_comm, hg, Int.sign_eq_one_of_pos hd, if_neg (by omega)]
  constructor
  · simp
  · simp; omega
theorem q_is {q : Rat} {n d : Int} (hd : 0 < d) (hg : Int.gcd n d = 1) (e : q = Rat.divInt n d) : n = q.num ∧ d = ((q.den : Nat) : Int) := by
  subst e
  obtain ⟨a, b⟩ := q_of hd hg
  exact ⟨a.symm, b.symm⟩
theorem gcd_fT_fB {t b : Int} (h : b ≠ 0) : Int.gcd (fT t b) (fB t b) = 1 := by
  have hp : 0 < Int.gcd t b := Int.gcd_pos_of_ne_zero_right _ h
  have e1 := fT_mul t b
  have e2 := fB_mul t b
  have e : Int.gcd (dv t b * fT t b) (dv t b * fB t b) = (dv t b).natAbs * Int.gcd (fT t b) (fB t b) := Int.gcd_mul_left ..
  rw [e1, e2] at e
  have hn : (dv t b).natAbs = Int.gcd t b := by unfold dv; split <;> simp
  rw [hn] at e
  exact Nat.eq_of_mul_eq_mul_left hp (by omega)
theorem q_fit {t b : Int} (h : b ≠ 0) : fT t b = (Rat.divInt t b).num ∧ fB t b = (((Rat.divInt t b).den : Nat) : Int) := by
  refine q_is (fB_pos h) (gcd_fT_fB h) ?_
  have e := Rat.divInt_mul_left (n := fT t b) (d := fB t b) (dv_ne (t := t) h)
  rw [fT_mul, fB_mul] at e
  exact e
theorem q_red (q : Rat) : Int.gcd q.num ((q.den : Nat) : Int) = 1 := by
  have := q.reduced
  simpa [Int.gcd, Nat.Coprime] using this
theorem q_pos (q : Rat) : 0 < ((q.den : Nat) : Int) := by
  have := q.den_nz
  omega
theorem q_add (x y : Rat) : Rat.divInt (x.num * y.den + y.num * x.den) (x.den * y.den) = x + y := by
  conv => rhs; rw [← Rat.num_divInt_den x, ← Rat.num_divInt_den y]
  rw [Rat.divInt_add_divInt _ _ (by have := q_pos x; omega) (by have := q_pos y; omega)]
theorem q_sub (x y : Rat) : Rat.divInt (x.num * y.den - y.num * x.den) (x.den * y.den) = x - y := by
  conv => rhs; rw [← Rat.num_divInt_den x, ← Rat.num_divInt_den y]
  rw [Rat.divInt_sub_divInt _ _ (by have := q_pos x; omega) (by have := q_pos y; omega)]
theorem q_mul (x y : Rat) : Rat.divInt (x.num * y.num) (x.den * y.den) = x * y := by
  conv => rhs; rw [← Rat.num_divInt_den x, ← Rat.num_divInt_den y]
  rw [Rat.divInt_mul_divInt]
theorem q_inv (y : Rat) : Rat.divInt y.den y.num = y⁻¹ := by
  conv => rhs; rw [← Rat.num_divInt_den y]
  rw [Rat.inv_divInt]
theorem q_div (x y : Rat) : Rat.divInt (x.num * y.den) (x.den * y.num) = x / y := by
  rw [Rat.div_def, ← q_inv]
  conv => rhs; rw [← Rat.num_divInt_den x]
  rw [Rat.divInt_mul_divInt]
theorem q_neg (y : Rat) : (-y).num = -y.num ∧ (-y).den = y.den := ⟨rfl, rfl⟩
theorem fd_mul {x g : Int} (h : g ∣ x) : g * x.fdiv g = x := Int.mul_fdiv_cancel' h
theorem quot_dvd {x g : Int} (h : g ∣ x) : x.fdiv g ∣ x := ⟨g, by rw [Int.mul_comm]; exact (fd_mul h).symm⟩
theorem cop_dvd {a b b' : Int} (h : Int.gcd a b = 1) (d : b' ∣ b) : Int.gcd a b' = 1 := by
  have h1 : Int.gcd a b' ∣ Int.gcd a b := Int.dvd_gcd (Int.gcd_dvd_left ..) (Int.dvd_trans (Int.gcd_dvd_right ..) d)
  rw [h] at h1
  exact Nat.dvd_one.mp h1
theorem cop_mul {a b c : Int} (h : Int.gcd a b = 1) (k : Int.gcd a c = 1) : Int.gcd a (b * c) = 1 := by
  show Nat.gcd a.natAbs (b * c).natAbs = 1
  rw [Int.natAbs_mul]
  exact Nat.Coprime.mul_right h k
theorem cop_add {a b c : Int} (h : Int.gcd a b = 1) : Int.gcd (a + c * b) b = 1 := by
  rw [Int.gcd_add_mul_right_left]; exact h
theorem cop_quot {a b : Int} (h : b ≠ 0) (g : Int) (hg : g = ((Int.gcd a b : Nat) : Int)) : Int.gcd (a.fdiv g) (b.fdiv g) = 1 := by
  have hp : 0 < Int.gcd a b := Int.gcd_pos_of_ne_zero_right _ h
  have e1 : g * a.fdiv g = a := fd_mul (by rw [hg]; exact Int.gcd_dvd_left ..)
  have e2 : g * b.fdiv g = b := fd_mul (by rw [hg]; exact Int.gcd_dvd_right ..)
  have e : Int.gcd (g * a.fdiv g) (g * b.fdiv g) = g.natAbs * Int.gcd (a.fdiv g) (b.fdiv g) := Int.gcd_mul_left ..
  rw [e1, e2] at e
  have hn : g.natAbs = Int.gcd a b := by rw [hg]; simp
  rw [hn] at e
  exact Nat.eq_of_mul_eq_mul_left hp (by omega)
theorem quot_pos {b g : Int} (hb : 0 < b) (hg : 0 < g) (d : g ∣ b) : 0 < b.fdiv g := by
  have e := fd_mul d
  refine Int.not_le.mp fun q => ?_
  have := Int.mul_nonpos_of_nonneg_of_nonpos (Int.le_of_lt hg) q
  omega
theorem gpos {a b : Int} (h : b ≠ 0) : 0 < ((Int.gcd a b : Nat) : Int) := by
  have := Int.gcd_pos_of_ne_zero_right a h
  omega
theorem q_plus (x y : Rat) (g t h : Int) (hg : g = ((Int.gcd ((x.den : Nat) : Int) ((y.den : Nat) : Int) : Nat) : Int)) (ht : t = x.num * ((y.den : Nat) : Int).fdiv g + y.num * ((x.den : Nat) : Int).fdiv g) (hh : h = ((Int.gcd t g : Nat) : Int)) :
    t.fdiv h = (x + y).num ∧ ((x.den : Nat) : Int).fdiv g * ((y.den : Nat) : Int).fdiv h = (((x + y).den : Nat) : Int) := by
  have hb := q_pos x
  have hd := q_pos y
  have rx := q_red x
  have ry := q_red y
  have ea := q_add x y
  revert hb hd rx ry hg ht ea
  generalize x.num = a
  generalize y.num = c
  generalize ((x.den : Nat) : Int) = b
  generalize ((y.den : Nat) : Int) = d
  intro hg ht hb hd rx ry ea
  have g0 : 0 < g := by rw [hg]; exact gpos (by omega)
  have h0 : 0 < h := by rw [hh]; exact gpos (by omega)
  have gb : g ∣ b := by rw [hg]; exact Int.gcd_dvd_left ..
  have gd : g ∣ d := by rw [hg]; exact Int.gcd_dvd_right ..
  have hht : h ∣ t := by rw [hh]; exact Int.gcd_dvd_left ..
  have hhg : h ∣ g := by rw [hh]; exact Int.gcd_dvd_right ..
  have eb := fd_mul gb
  have ed := fd_mul gd
  have et := fd_mul hht
  have eg := fd_mul hhg
  have b0 := quot_pos hb g0 gb
  have d0 := quot_pos hd g0 gd
  have k0 := quot_pos g0 h0 hhg
  have cbd : Int.gcd (b.fdiv g) (d.fdiv g) = 1 := cop_quot (by omega) g hg
  have ctg : Int.gcd (t.fdiv h) (g.fdiv h) = 1 := cop_quot (by omega) h hh
  have dh : d.fdiv h = g.fdiv h * d.fdiv g := by
    have e := fd_mul (Int.dvd_trans hhg gd)
    have e2 : h * (g.fdiv h * d.fdiv g) = d := by rw [← Int.mul_assoc, eg, ed]
    exact Int.eq_of_mul_eq_mul_left (by omega) (e.trans e2.symm)
  have ct1 : Int.gcd t (b.fdiv g) = 1 := by
    rw [ht]
    refine cop_add ?_
    rw [Int.gcd_comm]
    exact cop_mul (by rw [Int.gcd_comm]; exact cop_dvd rx ⟨g, by rw [Int.mul_comm]; exact eb.symm⟩) cbd
  have ct2 : Int.gcd t (d.fdiv g) = 1 := by
    rw [ht, Int.add_comm]
    refine cop_add ?_
    rw [Int.gcd_comm]
    exact cop_mul (by rw [Int.gcd_comm]; exact cop_dvd ry ⟨g, by rw [Int.mul_comm]; exact ed.symm⟩) (by rw [Int.gcd_comm]; exact cbd)
  have sub : ∀ z, Int.gcd t z = 1 → Int.gcd (t.fdiv h) z = 1 := fun z hz => by
    rw [Int.gcd_comm] at hz ⊢
    exact cop_dvd hz ⟨h, by rw [Int.mul_comm]; exact et.symm⟩
  rw [dh]
  refine q_is ?_ ?_ ?_
  · exact Int.mul_pos b0 (Int.mul_pos k0 d0)
  · exact cop_mul (sub _ ct1) (cop_mul ctg (sub _ ct2))
  · rw [← ea]
    have z := Rat.divInt_mul_left (n := t.fdiv h) (d := b.fdiv g * (g.fdiv h * d.fdiv g)) (a := g * h) (by have := Int.mul_pos g0 h0; omega)
    rw [← z]
    congr 1
    · rw [Int.mul_assoc, et, ht, Int.mul_add]
      congr 1
      · rw [← Int.mul_assoc, Int.mul_comm g, Int.mul_assoc, ed]
      · rw [← Int.mul_assoc, Int.mul_comm g, Int.mul_assoc, eb]
    · rw [show g * h * (b.fdiv g * (g.fdiv h * d.fdiv g)) = (g * b.fdiv g) * ((h * g.fdiv h) * d.fdiv g) by grind, eb, eg, ed]
theorem q_times (x y : Rat) (f s : Int) (hf : f = ((Int.gcd x.num ((y.den : Nat) : Int) : Nat) : Int)) (hs : s = ((Int.gcd y.num ((x.den : Nat) : Int) : Nat) : Int)) :
    x.num.fdiv f * y.num.fdiv s = (x * y).num ∧ ((x.den : Nat) : Int).fdiv s * ((y.den : Nat) : Int).fdiv f = (((x * y).den : Nat) : Int) := by
  have hb := q_pos x
  have hd := q_pos y
  have rx := q_red x
  have ry := q_red y
  have ea := q_mul x y
  revert hb hd rx ry hf hs ea
  generalize x.num = a
  generalize y.num = c
  generalize ((x.den : Nat) : Int) = b
  generalize ((y.den : Nat) : Int) = d
  intro hf hs hb hd rx ry ea
  have f0 : 0 < f := by rw [hf]; exact gpos (by omega)
  have s0 : 0 < s := by rw [hs]; exact gpos (by omega)
  have fa : f ∣ a := by rw [hf]; exact Int.gcd_dvd_left ..
  have fd : f ∣ d := by rw [hf]; exact Int.gcd_dvd_right ..
  have sc : s ∣ c := by rw [hs]; exact Int.gcd_dvd_left ..
  have sb : s ∣ b := by rw [hs]; exact Int.gcd_dvd_right ..
  have ea' := fd_mul fa
  have ed := fd_mul fd
  have ec := fd_mul sc
  have eb := fd_mul sb
  have c1 : Int.gcd (a.fdiv f) (d.fdiv f) = 1 := cop_quot (by omega) f hf
  have c2 : Int.gcd (c.fdiv s) (b.fdiv s) = 1 := cop_quot (by omega) s hs
  have c3 : Int.gcd (a.fdiv f) (b.fdiv s) = 1 := by
    refine cop_dvd (b := b) ?_ (quot_dvd sb)
    rw [Int.gcd_comm] at rx ⊢
    exact cop_dvd rx (quot_dvd fa)
  have c4 : Int.gcd (c.fdiv s) (d.fdiv f) = 1 := by
    refine cop_dvd (b := d) ?_ (quot_dvd fd)
    rw [Int.gcd_comm] at ry ⊢
    exact cop_dvd ry (quot_dvd sc)
  refine q_is (Int.mul_pos (quot_pos hb s0 sb) (quot_pos hd f0 fd)) ?_ ?_
  · rw [Int.gcd_comm]
    refine cop_mul ?_ ?_
    · rw [Int.gcd_comm]; exact cop_mul c3 c1
    · rw [Int.gcd_comm]; exact cop_mul c2 c4
  · rw [← ea]
    have z := Rat.divInt_mul_left (n := a.fdiv f * c.fdiv s) (d := b.fdiv s * d.fdiv f) (a := f * s) (by have := Int.mul_pos f0 s0; omega)
    rw [← z]
    congr 1
    · rw [show f * s * (a.fdiv f * c.fdiv s) = (f * a.fdiv f) * (s * c.fdiv s) by grind, ea', ec]
    · rw [show f * s * (b.fdiv s * d.fdiv f) = (s * b.fdiv s) * (f * d.fdiv f) by grind, eb, ed]
theorem q_dv (a b : Int) : Rat.divInt a b = (a : Rat) / (b : Rat) := by
  have h := q_div (a : Rat) (b : Rat)
  have e1 : (a : Rat).num * (((b : Rat).den : Nat) : Int) = a := by show a * 1 = a; omega
  have e2 : (((a : Rat).den : Nat) : Int) * (b : Rat).num = b := by show 1 * b = b; omega
  rw [e1, e2] at h
  exact h
theorem q_wpos {i : Int} (h : 1 ≤ i) : (0 : Rat) < (i : Rat) := by
  have : ((0 : Int) : Rat) < (i : Rat) := Rat.intCast_lt_intCast.mpr (by omega)
  exact this
theorem q_wne {m w : Int} (h : 1 ≤ m) (g : 1 ≤ w) : (m : Rat) + (w : Rat) ≠ 0 := by
  have a := q_wpos h
  have b := q_wpos g
  grind
theorem q_divpos {a b : Int} (ha : 0 < a) (hb : 0 < b) : (0 : Rat) < Rat.divInt a b := by
  rw [q_dv]
  rw [Rat.div_def]
  exact Rat.mul_pos (q_wpos (by omega)) (Rat.inv_pos.mpr (q_wpos (by omega)))
def mixQ (u v : Rat) (m w : Int) : Rat := u * Rat.divInt (m - w) (m + w) + v * Rat.divInt (2 * w) (m + w)
theorem mixQ_eq (u v : Rat) (m w : Int) : mixQ u v m w = u * (((m : Rat) - w) / (m + w)) + v * ((2 * w) / (m + w)) := by
  unfold mixQ
  rw [q_dv, q_dv]
  simp only [Rat.intCast_add, Rat.intCast_sub, Rat.intCast_mul]
  rfl
theorem mix_times {u v : Rat} {m w k : Int} (hm : 1 ≤ m) (hw : 1 ≤ w) (hk : 1 ≤ k) : mixQ u v (m * k) (w * k) = mixQ u v m w := by
  have z := q_wne hm hw
  have y := q_wpos hk
  simp only [mixQ_eq, Rat.intCast_mul]; grind
end Kw
set_option Elab.async false
set_option linter.all false
set_option maxRecDepth 100000
set_option maxHeartbeats 4000000
namespace Kw
open PySem PySem.Spec PyProof.Rows L2
abbrev FQ (K : PySem.W.Frag) (H : Hp) (p : Addr) (x : Rat) : Prop := SqT K H p [.int x.num, .int ((x.den : Nat) : Int)]
section
variable {K : PySem.W.Frag} {H H' : Hp} {p q : Addr} {x y : Rat} {m n : Nat}
theorem FQ.cast (h : FQ K H p x) (e : x = y) : FQ K H p y := e ▸ h
theorem FQ.dp (h : FQ K H p x) : Dp K H (.ref p) (.tuple [.int x.num, .int ((x.den : Nat) : Int)]) := .tup h (.cons (.int _) (.cons (.int _) .nil))
theorem FQ.fit {t b : Int} (h : b ≠ 0) (e : SqT K H p [.int (fT t b), .int (fB t b)]) : FQ K H p (Rat.divInt t b) := by
  obtain ⟨e1, e2⟩ := q_fit (t := t) h
  rw [e1, e2] at e
  exact e
theorem FQ.ofInt {i : Int} (h : SqT K H p [.int i, .int 1]) : FQ K H p (i : Rat) := h
theorem FQ.ofNeg {i : Int} (h : SqT K H p [.int i, .int ((x.den : Nat) : Int)]) (e : i = -x.num) : FQ K H p (-x) := by
  subst e
  exact h
def FB (n : Nat) (x : Rat) : Prop := Bd n x.num ∧ Bd n ((x.den : Nat) : Int)
theorem FB.mono (h : FB m x) (l : m ≤ n) : FB n x := ⟨h.1.mono l, h.2.mono l⟩
theorem FB.cast (h : FB n x) (e : x = y) : FB n y := e ▸ h
theorem FB.fit {t b : Int} (h : b ≠ 0) (g1 : Bd n t) (g2 : Bd n b) : FB n (Rat.divInt t b) := by
  obtain ⟨e1, e2⟩ := q_fit (t := t) h
  refine ⟨?_, ?_⟩
  · rw [← e1]; exact bd_fT h g1
  · rw [← e2]; exact bd_fB h g2
theorem q_ne (x : Rat) : ((x.den : Nat) : Int) ≠ 0 := by have := q_pos x; omega
theorem FB.add (h : FB m x) (g : FB n y) : FB (m + n + 1) (x + y) := by
  rw [← q_add]
  exact FB.fit (Int.mul_ne_zero (q_ne x) (q_ne y)) ((h.1.mul g.2).add ((g.1.mul h.2).mono (by omega))) ((h.2.mul g.2).mono (by omega))
theorem FB.sub (h : FB m x) (g : FB n y) : FB (m + n + 1) (x - y) := by
  rw [← q_sub]
  exact FB.fit (Int.mul_ne_zero (q_ne x) (q_ne y)) ((h.1.mul g.2).sub ((g.1.mul h.2).mono (by omega))) ((h.2.mul g.2).mono (by omega))
theorem FB.mul (h : FB m x) (g : FB n y) : FB (m + n) (x * y) := by
  rw [← q_mul]
  exact FB.fit (Int.mul_ne_zero (q_ne x) (q_ne y)) (h.1.mul g.1) (h.2.mul g.2)
theorem FB.neg (h : FB n x) : FB n (-x) := by
  refine ⟨?_, h.2⟩
  have := h.1
  unfold Bd at this ⊢
  rw [(q_neg x).1]
  omega
theorem FB.ofInt {i : Int} (h : Bd n i) (l : 64 ≤ n) : FB n (i : Rat) := ⟨h, (Bd.small (i := 1) (by decide) (by decide)).mono l⟩
theorem bd_quot {b g : Int} (hb : Bd n b) (d : g ∣ b) (g0 : g ≠ 0) : Bd n (b.fdiv g) := by
  refine hb.of_le ?_
  have e := fd_mul d
  have q := natAbs_le_mul (x := b.fdiv g) g0
  rw [e] at q
  exact q
theorem bd_gcdR {a b : Int} (h : b ≠ 0) (hb : Bd n b) : Bd n ((Int.gcd a b : Nat) : Int) := by
  refine hb.of_le ?_
  have hd : Int.gcd a b ∣ b.natAbs := Nat.gcd_dvd_right _ _
  have := Nat.le_of_dvd (by omega) hd
  omega
theorem FB.mix {u v : Rat} {i j : Int} (hu : FB m u) (hv : FB n v) (a1 : 1 ≤ i) (a2 : i ≤ 10000) (b1 : 1 ≤ j) (b2 : j ≤ 10000) : FB (m + n + 129) (mixQ u v i j) :=
  (FB.add (hu.mul (FB.fit (by omega) (Bd.small (by omega) (by omega)) (Bd.small (by omega) (by omega)))) (hv.mul (FB.fit (by omega) (Bd.small (by omega) (by omega)) (Bd.small (by omega) (by omega))))).mono (by omega)
end
theorem But.fresh {b : Addr} {H H' : Hp} (h : H b = none) (s : But b H H') : Same H H' := fun a o e => s a o (ne_of_none e h) e
theorem atI_mem (ns : List Int) (d : Int) (lo : 0 ≤ d) (hi : d < (ns.length : Int)) : ∃ v, atI (ns.map V.int) d = some (.int v) ∧ v ∈ ns := by
  have hk : d.toNat < ns.length := by omega
  have ek : d = ((d.toNat : Nat) : Int) := by omega
  have z : atI (ns.map V.int) ((d.toNat : Nat) : Int) = some (.int ns[d.toNat]) := atI_nat (by rw [List.getElem?_map, List.getElem?_eq_getElem hk] <;> rfl)
  rw [← ek] at z
  exact ⟨_, z, List.getElem_mem hk⟩
theorem Scr.same {K : PySem.W.Frag} {H H' : Hp} {a : Addr} (h : Scr K H a) (s : Same H H') : Scr K H' a := by
  obtain ⟨ns, x, y⟩ := h
  exact ⟨ns, s.seq x, y⟩
theorem Fn.imp {P : Program} {w : World} {K : PySem.W.Frag} {mg : Str → Option Value} {base : Heap} {k : Nat} {x : Str} {ps : List Str} {sp sp' : Sp} (F : Fn P w K mg base k x ps sp) (h : ∀ vs H Q E, sp' vs H Q E → sp vs H Q E) : Fn P w K mg base k x ps sp' := by
  obtain ⟨f, fd, g, r⟩ := F.ex
  exact ⟨f, fd, g.imp h, r⟩
section
variable {X : Cx}
def rAl (K : PySem.W.Frag) (r : Bool) : V → V → Hp → VK → Prop := fun x y H Q => ∃ d, Dp K H x d ∧ Dp K H y d ∧ d.canLay0 = true ∧ Nat.ble d.depth 60 = true ∧ Q (.bl r) H
theorem op_eqA {K : PySem.W.Frag} (hK : X.K = K) (hu : X.A.units + 100 < cLine) : OpR X (compareOp .Eq) (rAl K true) := by
  intro pins s σ H x y v u Q I rx ry h
  obtain ⟨d, hx, hy, c, dep, q⟩ := h
  refine op_eqD hK hu pins s σ H x y v u Q I rx ry ⟨d, d, hx, hy, c, c, ?_, ?_⟩
  · have := Nat.le_of_ble_eq_true dep
    omega
  · rw [SeqAt.eqv_refl d c]
    exact q
theorem op_neA {K : PySem.W.Frag} (hK : X.K = K) (hu : X.A.units + 100 < cLine) : OpR X (compareOp .NotEq) (rAl K false) := by
  intro pins s σ H x y v u Q I rx ry h
  obtain ⟨d, hx, hy, c, dep, q⟩ := h
  refine op_neD hK hu pins s σ H x y v u Q I rx ry ⟨d, d, hx, hy, c, c, ?_, ?_⟩
  · have := Nat.le_of_ble_eq_true dep
    omega
  · rw [SeqAt.eqv_refl d c]
    exact q
end
end Kw
set_option Elab.async false
set_option linter.all false
set_option maxRecDepth 100000
set_option maxHeartbeats 4000000
namespace Kw
open PySem PySem.Spec PyProof.Rows L2
section
variable {X : Cx}
def rBits : V → List V → Hp → VK → Prop := fun x vs H Q => ∃ i : Int, x = .int i ∧ vs = [] ∧ Q (.int ((Builtin.Int.intBits i : Nat) : Int)) H
theorem mt_bits : MtR X "int.bit_length" rBits := by
  intro pins s σ H x vs v us Q I rx rv h
  obtain ⟨i, rfl, rfl, q⟩ := h
  obtain ⟨t, rfl⟩ := rx
  cases rv
  exact call_gives PySem.F.slot_int_bit_length (typeIs_int s i t) PySem.F.entry_int_bit_length (PySem.F.args_int_bit_length_1 _) (PySem.AutoIntG2.int_bit_length_int_0 i t) ⟨.int ((Builtin.Int.intBits i : Nat) : Int), H, I.tok _, ⟨_, rfl⟩, q⟩
end
def spGcdB : Sp := fun vs H Q _ => ∃ a b : Int, vs = [.int a, .int b] ∧ Bd 4000 b ∧ Q (.int ((Int.gcd a b : Nat) : Int)) H
theorem short_min {a b : Int} (h : Bd 4000 b) : ¬ (((Builtin.Int.intBits (if (if b < 0 then -b else b) < (if a < 0 then -a else a) then (if b < 0 then -b else b) else (if a < 0 then -a else a)) : Nat) : Int) > 4000) := by
  have l : Bd 4000 (if (if b < 0 then -b else b) < (if a < 0 then -a else a) then (if b < 0 then -b else b) else (if a < 0 then -a else a)) := by
    refine h.of_le ?_
    split <;> split <;> (try split) <;> omega
  have := l.bits
  omega
end Kw
set_option Elab.async false
set_option linter.all false
set_option maxRecDepth 100000
set_option maxHeartbeats 4000000
namespace Kw
open PySem PySem.Spec PyProof.Rows L2
def mixS (u v : Rat) (m w : Int) (s : Rat) : Rat := u * Rat.divInt (m * ((s.den : Nat) : Int) - w * s.num) ((m + w) * ((s.den : Nat) : Int)) + v * Rat.divInt (w * (((s.den : Nat) : Int) + s.num)) ((m + w) * ((s.den : Nat) : Int))
theorem mixS_one (u v : Rat) (m w : Int) : mixS u v m w ((1 : Int) : Rat) = mixQ u v m w := by
  have e1 : (((1 : Int) : Rat)).num = 1 := rfl
  have e2 : (((((1 : Int) : Rat)).den : Nat) : Int) = 1 := rfl
  unfold mixS mixQ
  rw [e1, e2]
  simp only [Int.mul_one]
  rw [show w * (1 + 1) = 2 * w by omega]
theorem both_ne {m w : Int} {s : Rat} (hm : 1 ≤ m) (hw : 1 ≤ w) : (m + w) * ((s.den : Nat) : Int) ≠ 0 := Int.mul_ne_zero (by omega) (q_ne s)
theorem FB.mixS {a b n : Nat} {u v s : Rat} {i j : Int} (hu : FB a u) (hv : FB b v) (hs : FB n s) (a1 : 1 ≤ i) (a2 : i ≤ 10000) (b1 : 1 ≤ j) (b2 : j ≤ 10000) : FB (a + b + 2 * n + 133) (mixS u v i j s) := by
  have bi : Bd 64 i := Bd.small (by omega) (by omega)
  have bj : Bd 64 j := Bd.small (by omega) (by omega)
  have b1' : Bd (n + 66) ((i + j) * ((s.den : Nat) : Int)) := ((bi.add bj).mul hs.2).mono (by omega)
  have b2' : Bd (n + 66) (i * ((s.den : Nat) : Int) - j * s.num) := ((bi.mul hs.2).sub (bj.mul hs.1)).mono (by omega)
  have b3' : Bd (n + 66) (j * (((s.den : Nat) : Int) + s.num)) := (bj.mul (hs.2.add hs.1)).mono (by omega)
  have z := both_ne (s := s) a1 b1
  exact ((hu.mul (FB.fit z b2' b1')).add (hv.mul (FB.fit z b3' b1'))).mono (by omega)
end Kw
namespace Kw
open PySem PySem.Spec PyProof.Rows L2
end Kw
namespace Kw
end Kw
set_option Elab.async false
set_option linter.all false
set_option maxRecDepth 100000
set_option maxHeartbeats 4000000
namespace Kw
open PySem PySem.Spec PyProof.Rows L2
def Al2 {β : Type} (R : V → β → Prop) : List V → List β → Prop
  | [], [] => True
  | x :: xs, b :: bs => R x b ∧ Al2 R xs bs
  | _, _ => False
section
variable {β : Type} {R R' : V → β → Prop}
theorem Al2.imp (h : ∀ x b, R x b → R' x b) : ∀ {xs : List V} {bs : List β}, Al2 R xs bs → Al2 R' xs bs
  | [], [], _ => trivial
  | _ :: _, _ :: _, z => ⟨h _ _ z.1, Al2.imp h z.2⟩
  | [], _ :: _, z => z.elim
  | _ :: _, [], z => z.elim
theorem Al2.len : ∀ {xs : List V} {bs : List β}, Al2 R xs bs → xs.length = bs.length
  | [], [], _ => rfl
  | _ :: _, _ :: _, z => by simp [Al2.len z.2]
  | [], _ :: _, z => z.elim
  | _ :: _, [], z => z.elim
theorem Al2.get : ∀ {xs : List V} {bs : List β} {i : Nat} {x : V}, Al2 R xs bs → xs[i]? = some x → ∃ b, bs[i]? = some b ∧ R x b
  | [], _, _, _, _, e => by simp at e
  | _ :: _, [], _, _, z, _ => z.elim
  | _ :: _, b :: _, 0, _, z, e => by
    simp only [List.getElem?_cons_zero, Option.some.injEq] at e
    subst e
    exact ⟨b, rfl, z.1⟩
  | _ :: _, _ :: _, i + 1, _, z, e => by
    simp only [List.getElem?_cons_succ] at e
    obtain ⟨b, h1, h2⟩ := Al2.get z.2 e
    exact ⟨b, by simpa using h1, h2⟩
theorem Al2.snoc : ∀ {xs : List V} {bs : List β} {x : V} {b : β}, Al2 R xs bs → R x b → Al2 R (xs ++ [x]) (bs ++ [b])
  | [], [], _, _, _, h => ⟨h, trivial⟩
  | _ :: _, _ :: _, _, _, z, h => ⟨z.1, Al2.snoc z.2 h⟩
  | [], _ :: _, _, _, z, _ => z.elim
  | _ :: _, [], _, _, z, _ => z.elim
theorem take_snoc {bs : List β} {i : Nat} {b : β} (h : bs[i]? = some b) : bs.take (i + 1) = bs.take i ++ [b] := by
  rw [List.take_add_one, h]
  rfl
end
def FrQ (K : PySem.W.Frag) (H : Hp) (n : Nat) (x : V) (q : Rat) : Prop := ∃ p, x = .ref p ∧ FQ K H p q ∧ FB n q
def BdQ (K : PySem.W.Frag) (H : Hp) (n : Nat) (x : V) (b : Rat × Rat × Int) : Prop := ∃ p a c, x = .ref p ∧ SqT K H p [.ref a, .ref c, .int b.2.2] ∧ FQ K H a b.1 ∧ FQ K H c b.2.1 ∧ FB n b.1 ∧ FB n b.2.1 ∧ 1 ≤ b.2.2 ∧ b.2.2 ≤ 10000
section
variable {K : PySem.W.Frag} {H H' : Hp} {n m : Nat} {x : V} {q : Rat} {b : Rat × Rat × Int}
theorem FrQ.same (h : FrQ K H n x q) (s : Same H H') : FrQ K H' n x q := by
  obtain ⟨p, e, g, d⟩ := h
  exact ⟨p, e, Kw.Same.tup s g, d⟩
theorem frs_same {xs : List V} {qs : List Rat} (h : Al2 (FrQ K H n) xs qs) (s : Same H H') : Al2 (FrQ K H' n) xs qs := Al2.imp (fun _ _ z => z.same s) h
end
def sumQ (qs : List Rat) : Rat := qs.foldl (fun a b => a + b) 0
theorem sumQ_snoc (qs : List Rat) (q : Rat) : sumQ (qs ++ [q]) = sumQ qs + q := by
  unfold sumQ
  rw [List.foldl_append]
  rfl
def pushQ (bs : List (Rat × Rat × Int)) : Rat := sumQ (bs.map fun b => (b.2.2 : Rat) * b.2.1)
def mightQ (bs : List (Rat × Rat × Int)) : Rat := sumQ (bs.map fun b => (b.2.2 : Rat) * b.2.1 * b.2.1)
theorem push2 (x1 v1 x2 v2 : Rat) (m1 m2 : Int) : pushQ [(x1, v1, m1), (x2, v2, m2)] = (m1 : Rat) * v1 + m2 * v2 := by
  show (0 + (m1 : Rat) * v1) + m2 * v2 = _
  grind
theorem might2 (x1 v1 x2 v2 : Rat) (m1 m2 : Int) : mightQ [(x1, v1, m1), (x2, v2, m2)] = (m1 : Rat) * v1 * v1 + m2 * v2 * v2 := by
  show (0 + (m1 : Rat) * v1 * v1) + m2 * v2 * v2 = _
  grind
theorem FB.push2 {n k : Nat} {x1 v1 x2 v2 : Rat} {m1 m2 : Int} (a1 : 1 ≤ m1) (a2 : m1 ≤ 10000) (b1 : 1 ≤ m2) (b2 : m2 ≤ 10000) (h1 : FB n v1) (h2 : FB k v2) : FB (n + k + 129) (pushQ [(x1, v1, m1), (x2, v2, m2)]) := by
  rw [Kw.push2]
  exact (FB.add (FB.mul (FB.ofInt (Bd.small (i := m1) (by omega) (by omega)) (by decide)) h1) (FB.mul (FB.ofInt (Bd.small (i := m2) (by omega) (by omega)) (by decide)) h2)).mono (by omega)
theorem FB.might2 {n k : Nat} {x1 v1 x2 v2 : Rat} {m1 m2 : Int} (a1 : 1 ≤ m1) (a2 : m1 ≤ 10000) (b1 : 1 ≤ m2) (b2 : m2 ≤ 10000) (h1 : FB n v1) (h2 : FB k v2) : FB (n + n + k + k + 129) (mightQ [(x1, v1, m1), (x2, v2, m2)]) := by
  rw [Kw.might2]
  exact (FB.add (FB.mul (FB.mul (FB.ofInt (Bd.small (i := m1) (by omega) (by omega)) (by decide)) h1) h1) (FB.mul (FB.mul (FB.ofInt (Bd.small (i := m2) (by omega) (by omega)) (by decide)) h2) h2)).mono (by omega)
section
variable {X : Cx} {K : PySem.W.Frag}
def tGlobT (K : PySem.W.Frag) (t b : Int) : TE := fun _ H Q => ∀ N, (∀ H1, SqT K H1 N [.int t, .int b]) → Q (.ref N) H
theorem pe_globT {x : Str} {t b : Int} {pos : Pos} (hK : X.K = K) (hg : Gl X x) (hm : ∃ N, X.mg x = some (.ref N) ∧ ∀ H, SqT K H N [.int t, .int b]) (hd : (x == ("__debug__" : Str)) = false := by decide) : PE X (.Name x pos) (tGlobT K t b) := by
  obtain ⟨N, hm, hN⟩ := hm
  intro pins s σ H Q I h
  exact pe_glob hg hm (v := .ref N) rfl hd pins s σ H Q I (h N hN)
theorem sqt_const {A : Addr} {o : Option Addr} {t b : Int} {k1 k2 : Tok} {n : Nat} {sl : Array (Option Value)} (h : K.lookup A = some ⟨.type "tuple", o, .seq #[.int t k1, .int b k2] n, sl⟩) : ∀ H, SqT K H A [.int t, .int b] := fun H =>
  .inr ⟨_, _, _, h, rfl, rfl, by show 2 ≤ sizeLine; decide, .cons ⟨_, rfl⟩ (.cons ⟨_, rfl⟩ .nil)⟩
end
end Kw
set_option Elab.async false
set_option linter.all false
set_option maxRecDepth 100000
set_option maxHeartbeats 4000000
namespace Kw
open PySem PySem.Spec PyProof.Rows L2
section
variable {pr : Program} {wd : World} {Ar : Around} {Er : Value → Shared → Prop}
end
section
variable {X : Cx} {pos : Pos}
end
end Kw
set_option Elab.async false
set_option linter.all false
set_option maxRecDepth 100000
set_option maxHeartbeats 4000000
namespace Kw
open PySem PySem.Spec PyProof.Rows L2
section
variable {K : PySem.W.Frag} {te : TE} {σ : L2.St} {H : Hp} {Q : VK} {idx : List Nat}
end
end Kw
set_option Elab.async false
set_option linter.all false
set_option maxRecDepth 100000
set_option maxHeartbeats 4000000
namespace Prf
open PySem PySem.Spec PyProof.Rows L2 Kw
def top (i : Nat) : Stmt := PySem.Challenge.pw_knockwright_k16_whole_parting_turned_bac.main.body.getD i (.Pass ⟨0, 0, 0, 0⟩)
structure Tx (K : PySem.W.Frag) (mg : Str → Option Value) : Prop where
  b_isinstance : mg "isinstance" = none
  b_int : mg "int" = none
  b_bool : mg "bool" = none
  b_abs : mg "abs" = none
  b_len : mg "len" = none
  b_divmod : mg "divmod" = none
  b_range : mg "range" = none
  b_max : mg "max" = none
  b_min : mg "min" = none
  k_LONG_BITS : ∃ t, mg "LONG_BITS" = some (.int 4000 t)
  k_ALL : ∃ N, mg "ALL" = some (.ref N) ∧ ∀ H, SqT K H N [.int 1, .int 1]
  k_NOUGHT : ∃ N, mg "NOUGHT" = some (.ref N) ∧ ∀ H, SqT K H N [.int 0, .int 1]
section
variable {P : Program} {w : World} {K : PySem.W.Frag} {mg : Str → Option Value} {base : Heap}
theorem sc_is_whole : FnScope ["thing"] ["thing"] (defScope (top 6)) := ⟨rfl, rfl, rfl, by decide +kernel, rfl, by decide +kernel, by decide +kernel⟩
theorem ok_is_whole (D : Df K mg "is_whole" (top 6) ["thing"]) (T : Tx K mg) : Fn P w K mg base 1 "is_whole" ["thing"] (spWhole K) := by
  refine D.ok0 sc_is_whole (fun vs H Q E h => ?_) (fun f cdv A outer s H vs Q E hr h => ?_)
  · obtain ⟨x, t, b1, b2, rfl, _⟩ := h
    rfl
  obtain ⟨x, t, b1, b2, rfl, ty, k1, k2, q⟩ := h
  refine ⟨_, (pss_one (ps_ret (pe_and (pe_callB call_isinst (by rfl) T.b_isinstance PyProof.Rows.Boot.«isinstance» (pa_cons (pv 0) (pa_cons (pe_bty (by rfl) T.b_int PyProof.Rows.Boot.«int») pa_nil))) (pe_one (pe_not (pe_callB call_isinst (by rfl) T.b_isinstance PyProof.Rows.Boot.«isinstance» (pa_cons (pv 0) (pa_cons (pe_bty (by rfl) T.b_bool PyProof.Rows.Boot.«bool») pa_nil)))))))), ?_⟩
  refine ⟨_, rfl, x, _, b1, rfl, .inl ⟨_, rfl⟩, ⟨t, ty, k1⟩, b1, rfl, ?_⟩
  cases b1 with
  | false => exact iteF q
  | true => exact iteT ⟨_, rfl, x, _, b2, rfl, .inl ⟨_, rfl⟩, ⟨t, ty, k2⟩, b2, rfl, q⟩
theorem sc_common_divisor : FnScope ["one", "other", "great", "small", "steps", "rest"] ["one", "other"] (defScope (top 8)) := ⟨rfl, rfl, rfl, by decide +kernel, rfl, by decide +kernel, by decide +kernel⟩
theorem ok_common_divisor (D : Df K mg "common_divisor" (top 8) ["one", "other"]) (T : Tx K mg) : Fn P w K mg base 1 "common_divisor" ["one", "other"] spGcdB := by
  refine D.ok0 sc_common_divisor (fun vs H Q E h => ?_) (fun f cdv A outer s H vs Q E hr h => ?_)
  · obtain ⟨a, b, rfl, _⟩ := h
    rfl
  obtain ⟨a, b, rfl, hb, q⟩ := h
  refine ⟨_, (pss_cons (ps_set (i := 2) sc_common_divisor.nd rfl (Or.inl rfl) (pe_callB call_abs (by rfl) T.b_abs PyProof.Rows.Boot.«abs» (pa_cons (pv 0) pa_nil)))
      (pss_cons (ps_set (i := 3) sc_common_divisor.nd rfl (Or.inl rfl) (pe_callB call_abs (by rfl) T.b_abs PyProof.Rows.Boot.«abs» (pa_cons (pv 1) pa_nil)))
      (pss_cons (ps_while PassesOwn.never (pt_cmpR op_gt (pe_bm0 PySem.F.plainAttrs_int PySem.F.slot_int_bit_length PySem.F.type_int_bit_length mt_bits (pe_callB (call_min2 rfl) (by rfl) T.b_min PyProof.Rows.Boot.«min» (pa_cons (pv 2) (pa_cons (pv 3) pa_nil)))) (pe_globI (by rfl) T.k_LONG_BITS) (nomark _)) pss_never)
      (pss_cons (ps_while PassesOwn.never (pt_cmpR op_gt (pv 3) pe_int (nomark _)) (pss_cons (ps_set (i := 5) sc_common_divisor.nd rfl (Or.inl rfl) (pe_op op_mod (pv 2) (pv 3)))
      (pss_cons (ps_set (i := 2) sc_common_divisor.nd rfl (Or.inl rfl) (pv 3))
      (pss_one (ps_set (i := 3) sc_common_divisor.nd rfl (Or.inl rfl) (pv 5))))))
      (pss_one (ps_ret (pv 2))))))), ?_⟩
  refine ⟨_, rfl, _, rfl, _, rfl, _, rfl, ?_⟩
  refine ⟨fun m σ' H' => ∃ r1 r2 : Option V, σ' = [some (.int a), some (.int b), some (.int (if a < 0 then -a else a)), some (.int (if b < 0 then -b else b)), r1, r2] ∧ H' = H, ⟨0, _, _, rfl, rfl⟩, ?_⟩
  rintro m σ' H' ⟨r1, r2, rfl, rfl⟩
  refine ⟨_, rfl, _, rfl, _, _, rfl, rfl, _, rfl, rfl, _, _, rfl, rfl, _, rfl, ?_⟩
  refine if_dec (fun c => absurd c (short_min hb)) (fun _ => ?_)
  refine ⟨fun m σ' H2 => ∃ g s : Int, ∃ r1 r2 : Option V, σ' = [some (.int a), some (.int b), some (.int g), some (.int s), r1, r2] ∧ H2 = H' ∧ 0 ≤ g ∧ 0 ≤ s ∧ m = s.toNat ∧ Int.gcd g s = Int.gcd a b, ⟨_, _, _, _, _, rfl, rfl, abs_nn a, abs_nn b, rfl, gcd_abs a b⟩, ?_⟩
  rintro m σ' H2 ⟨g, s, r1, r2, rfl, rfl, hg, hs, rfl, e⟩
  refine ⟨_, rfl, _, _, rfl, rfl, _, rfl, ?_⟩
  refine if_dec (fun c => ?_) (fun c => ?_)
  · refine ⟨_, fun _ _ n => n, ?_⟩
    refine ⟨_, rfl, _, rfl, _, _, rfl, rfl, c, _, rfl, _, rfl, ?_⟩
    have l := Int.emod_lt_of_pos g c
    have l0 := Int.emod_nonneg g (show s ≠ 0 by omega)
    exact ⟨_, by omega, s, g % s, _, _, rfl, rfl, by omega, l0, rfl, (gcd_step g s hg c).trans e⟩
  · refine ⟨_, rfl, ?_⟩
    have s0 : s = 0 := by omega
    subst s0
    have z := gcd_end g hg
    rw [e] at z
    rw [← z]
    exact q
def sp_fraction (K : PySem.W.Frag) : Sp := fun vs H Q _ => ∃ (a : Int) (b : Int), vs = [.int a, .int b] ∧ Bd 4000 b ∧ b ≠ 0 ∧ (∀ (p_r : Addr) (H1 : Hp), Same H H1 → FQ K H1 p_r (Rat.divInt a b) → Q (.ref p_r) H1)
theorem sc_fraction : FnScope ["top", "bottom", "divisor"] ["top", "bottom"] (defScope (top 9)) := ⟨rfl, rfl, rfl, by decide +kernel, rfl, by decide +kernel, by decide +kernel⟩
theorem ok_fraction (D : Df K mg "fraction" (top 9) ["top", "bottom"]) (T : Tx K mg) (F_is_whole : Fn P w K mg base 1 "is_whole" ["thing"] (spWhole K)) (F_common_divisor : Fn P w K mg base 1 "common_divisor" ["one", "other"] spGcdB) :
    Fn P w K mg base 2 "fraction" ["top", "bottom"] (sp_fraction K) := by
  refine D.ok0 sc_fraction (fun vs H Q E h => ?_) (fun f cdv A outer s H vs Q E hr h => ?_)
  · obtain ⟨a, b, rfl, _⟩ := h
    rfl
  obtain ⟨a, b, rfl, hb, c, hq⟩ := h
  refine ⟨_, (pss_cons (ps_if (pw_or (pt_not (pt_val (pe_fn F_is_whole (by decide) hr (by rfl) passE0 (pa_cons (pv 0) pa_nil)) (fun _ => rfl))) (pw_or1 (pt_not (pt_val (pe_fn F_is_whole (by decide) hr (by rfl) passE0 (pa_cons (pv 1) pa_nil)) (fun _ => rfl))))).pt (pss_one ps_never) pss_nil)
      (pss_cons (ps_if (pt_cmpR op_eq (pv 1) pe_int (nomark _)) (pss_one ps_never) pss_nil)
      (pss_cons (ps_set (i := 2) sc_fraction.nd rfl (Or.inl rfl) (pe_fn F_common_divisor (by decide) hr (by rfl) passE0 (pa_cons (pv 0) (pa_cons (pv 1) pa_nil))))
      (pss_cons (ps_if (pt_cmpR op_lt (pv 1) pe_int (nomark _)) (pss_one (ps_set (i := 2) sc_fraction.nd rfl (Or.inl rfl) (pe_un un_neg (pv 2)))) pss_nil)
      (pss_one (ps_ret (pe_tup (pa_cons (pe_op op_fdivB (pv 0) (pv 2)) (pa_cons (pe_op op_fdivB (pv 1) (pv 2)) pa_nil))))))))), ?_⟩
  refine ⟨_, rfl, _, _, true, false, rfl, .int a, kit_int_int, kit_int_bool, _, rfl, ?_⟩
  refine iteF ⟨_, rfl, _, _, true, false, rfl, .int b, kit_int_int, kit_int_bool, _, rfl, ?_⟩
  refine iteF ⟨_, rfl, rfl, _, rfl, ?_⟩
  refine if_decI (fun z => absurd z c) (fun _ => ?_)
  refine ⟨_, rfl, _, rfl, a, b, rfl, hb, ?_⟩
  have hd : (if b < 0 then -((Int.gcd a b : Nat) : Int) else ((Int.gcd a b : Nat) : Int)) = dv a b := rfl
  have lg := (bd_dv (t := a) c (hb.mono (n := 9000) (by decide))).log
  refine ⟨_, rfl, _, _, rfl, rfl, _, rfl, ?_⟩
  refine if_dec (fun n => ?_) (fun n => ?_)
  · rw [if_pos n] at hd
    refine ⟨_, rfl, _, rfl, ?_⟩
    dsimp only
    rw [hd]
    refine ⟨_, rfl, _, rfl, _, _, rfl, rfl, ⟨dv_ne c, lg⟩, _, rfl, _, rfl, _, _, rfl, rfl, ⟨dv_ne c, lg⟩, by show 2 ≤ sizeLine; decide, ?_⟩
    exact rd_new fun p H' sm hp => hq p H' sm (FQ.fit c (SqT.of hp))
  · rw [if_neg n] at hd
    rw [hd]
    refine ⟨_, rfl, _, rfl, _, _, rfl, rfl, ⟨dv_ne c, lg⟩, _, rfl, _, rfl, _, _, rfl, rfl, ⟨dv_ne c, lg⟩, by show 2 ≤ sizeLine; decide, ?_⟩
    exact rd_new fun p H' sm hp => hq p H' sm (FQ.fit c (SqT.of hp))
def sp_plus (K : PySem.W.Frag) : Sp := fun vs H Q _ => ∃ (p_x : Addr) (x : Rat) (p_y : Addr) (y : Rat), vs = [.ref p_x, .ref p_y] ∧ FQ K H p_x x ∧ FB 4000 x ∧ FQ K H p_y y ∧ FB 4000 y ∧ (∀ (p_r : Addr) (H1 : Hp), Same H H1 → FQ K H1 p_r (x + y) → Q (.ref p_r) H1)
theorem sc_plus : FnScope ["one", "other", "shared", "top", "divisor"] ["one", "other"] (defScope (top 10)) := ⟨rfl, rfl, rfl, by decide +kernel, rfl, by decide +kernel, by decide +kernel⟩
theorem ok_plus (D : Df K mg "plus" (top 10) ["one", "other"]) (T : Tx K mg) (F_common_divisor : Fn P w K mg base 1 "common_divisor" ["one", "other"] spGcdB) : Fn P w K mg base 2 "plus" ["one", "other"] (sp_plus K) := by
  refine D.ok0 sc_plus (fun vs H Q E h => ?_) (fun f cdv A outer s H vs Q E hr h => ?_)
  · obtain ⟨p, x, q, y, rfl, _⟩ := h
    rfl
  obtain ⟨p, x, q, y, rfl, hp, ⟨ha, hb⟩, hq, ⟨hc, hd⟩, k⟩ := h
  refine ⟨_, (pss_cons (ps_set (i := 2) sc_plus.nd rfl (Or.inl rfl) (pe_fn F_common_divisor (by decide) hr (by rfl) passE0 (pa_cons (pe_ix ix_tup (pv 0) pe_int (fun _ _ => rfl)) (pa_cons (pe_ix ix_tup (pv 1) pe_int (fun _ _ => rfl)) pa_nil))))
      (pss_cons (ps_set (i := 3) sc_plus.nd rfl (Or.inl rfl) (pe_op op_add (pe_op op_mulB (pe_ix ix_tup (pv 0) pe_int (fun _ _ => rfl)) (pe_op op_fdivB (pe_ix ix_tup (pv 1) pe_int (fun _ _ => rfl)) (pv 2))) (pe_op op_mulB (pe_ix ix_tup (pv 1) pe_int (fun _ _ => rfl)) (pe_op op_fdivB (pe_ix ix_tup (pv 0) pe_int (fun _ _ => rfl)) (pv 2)))))
      (pss_cons (ps_set (i := 4) sc_plus.nd rfl (Or.inl rfl) (pe_fn F_common_divisor (by decide) hr (by rfl) passE0 (pa_cons (pv 3) (pa_cons (pv 2) pa_nil))))
      (pss_one (ps_ret (pe_tup (pa_cons (pe_op op_fdivB (pv 3) (pv 4)) (pa_cons (pe_op op_mulB (pe_op op_fdivB (pe_ix ix_tup (pv 0) pe_int (fun _ _ => rfl)) (pv 2)) (pe_op op_fdivB (pe_ix ix_tup (pv 1) pe_int (fun _ _ => rfl)) (pv 4))) pa_nil)))))))), ?_⟩
  refine ⟨_, rfl, p, _, _, _, rfl, rfl, hp, rfl, _, rfl, q, _, _, _, rfl, rfl, hq, rfl, _, _, rfl, hd, ?_⟩
  have g0 := gpos (a := ((x.den : Nat) : Int)) (q_ne y)
  have bg := bd_gcdR (a := ((x.den : Nat) : Int)) (q_ne y) hd
  have dg1 : (((Int.gcd ((x.den : Nat) : Int) ((y.den : Nat) : Int) : Nat) : Int)) ∣ ((x.den : Nat) : Int) := Int.gcd_dvd_left ..
  have dg2 : (((Int.gcd ((x.den : Nat) : Int) ((y.den : Nat) : Int) : Nat) : Int)) ∣ ((y.den : Nat) : Int) := Int.gcd_dvd_right ..
  generalize hg : ((Int.gcd ((x.den : Nat) : Int) ((y.den : Nat) : Int) : Nat) : Int) = g at g0 bg dg1 dg2 ⊢
  have g1 : g ≠ 0 := by omega
  have lg := (bg.mono (n := 9000) (by decide)).log
  have b1 := bd_quot hd dg2 g1
  have b2 := bd_quot hb dg1 g1
  refine ⟨_, rfl, p, _, _, _, rfl, rfl, hp, rfl, _, rfl, q, _, _, _, rfl, rfl, hq, rfl, _, rfl, _, _, rfl, rfl, ⟨g1, lg⟩, _, _, rfl, rfl, ha.ok b1 (by decide), _, rfl, q, _, _, _, rfl, rfl, hq, rfl, _, rfl, p, _, _, _, rfl, rfl, hp, rfl, _, rfl, _, _, rfl, rfl, ⟨g1, lg⟩, _, _, rfl, rfl, hc.ok b2 (by decide), _, _, rfl, rfl, ?_⟩
  dsimp only
  have bt := (ha.mul b1).add (hc.mul b2)
  generalize ht : x.num * ((y.den : Nat) : Int).fdiv g + y.num * ((x.den : Nat) : Int).fdiv g = t at bt ⊢
  refine ⟨_, rfl, _, rfl, _, _, rfl, bg, ?_⟩
  have h0 := gpos (a := t) g1
  have bh := bd_gcdR (a := t) g1 bg
  have dh : ((Int.gcd t g : Nat) : Int) ∣ g := Int.gcd_dvd_right ..
  generalize hh : ((Int.gcd t g : Nat) : Int) = h at h0 bh dh ⊢
  have h1 : h ≠ 0 := by omega
  have lh := (bh.mono (n := 9000) (by decide)).log
  have b3 := bd_quot hd (Int.dvd_trans dh dg2) h1
  refine ⟨_, rfl, _, rfl, _, _, rfl, rfl, ⟨h1, lh⟩, _, rfl, p, _, _, _, rfl, rfl, hp, rfl, _, rfl, _, _, rfl, rfl, ⟨g1, lg⟩, _, rfl, q, _, _, _, rfl, rfl, hq, rfl, _, rfl, _, _, rfl, rfl, ⟨h1, lh⟩, _, _, rfl, rfl, b2.ok b3 (by decide), by show 2 ≤ sizeLine; decide, ?_⟩
  refine rd_new fun r H1 sm hr1 => k r H1 sm ?_
  obtain ⟨e1, e2⟩ := q_plus x y g t h hg.symm ht.symm hh.symm
  have z := SqT.of (K := K) hr1
  dsimp only at z
  rw [e1, e2] at z
  exact z
def sp_times (K : PySem.W.Frag) : Sp := fun vs H Q _ => ∃ (p_x : Addr) (x : Rat) (p_y : Addr) (y : Rat), vs = [.ref p_x, .ref p_y] ∧ FQ K H p_x x ∧ FB 4000 x ∧ FQ K H p_y y ∧ FB 4000 y ∧ (∀ (p_r : Addr) (H1 : Hp), Same H H1 → FQ K H1 p_r (x * y) → Q (.ref p_r) H1)
theorem sc_times : FnScope ["one", "other", "first", "second"] ["one", "other"] (defScope (top 11)) := ⟨rfl, rfl, rfl, by decide +kernel, rfl, by decide +kernel, by decide +kernel⟩
theorem ok_times (D : Df K mg "times" (top 11) ["one", "other"]) (T : Tx K mg) (F_common_divisor : Fn P w K mg base 1 "common_divisor" ["one", "other"] spGcdB) : Fn P w K mg base 2 "times" ["one", "other"] (sp_times K) := by
  refine D.ok0 sc_times (fun vs H Q E h => ?_) (fun f cdv A outer s H vs Q E hr h => ?_)
  · obtain ⟨p, x, q, y, rfl, _⟩ := h
    rfl
  obtain ⟨p, x, q, y, rfl, hp, ⟨ha, hb⟩, hq, ⟨hc, hd⟩, k⟩ := h
  refine ⟨_, (pss_cons (ps_set (i := 2) sc_times.nd rfl (Or.inl rfl) (pe_fn F_common_divisor (by decide) hr (by rfl) passE0 (pa_cons (pe_ix ix_tup (pv 0) pe_int (fun _ _ => rfl)) (pa_cons (pe_ix ix_tup (pv 1) pe_int (fun _ _ => rfl)) pa_nil))))
      (pss_cons (ps_set (i := 3) sc_times.nd rfl (Or.inl rfl) (pe_fn F_common_divisor (by decide) hr (by rfl) passE0 (pa_cons (pe_ix ix_tup (pv 1) pe_int (fun _ _ => rfl)) (pa_cons (pe_ix ix_tup (pv 0) pe_int (fun _ _ => rfl)) pa_nil))))
      (pss_one (ps_ret (pe_tup (pa_cons (pe_op op_mulB (pe_op op_fdivB (pe_ix ix_tup (pv 0) pe_int (fun _ _ => rfl)) (pv 2)) (pe_op op_fdivB (pe_ix ix_tup (pv 1) pe_int (fun _ _ => rfl)) (pv 3))) (pa_cons (pe_op op_mulB (pe_op op_fdivB (pe_ix ix_tup (pv 0) pe_int (fun _ _ => rfl)) (pv 3)) (pe_op op_fdivB (pe_ix ix_tup (pv 1) pe_int (fun _ _ => rfl)) (pv 2))) pa_nil))))))), ?_⟩
  refine ⟨_, rfl, p, _, _, _, rfl, rfl, hp, rfl, _, rfl, q, _, _, _, rfl, rfl, hq, rfl, _, _, rfl, hd, ?_⟩
  have f0 := gpos (a := x.num) (q_ne y)
  have bf := bd_gcdR (a := x.num) (q_ne y) hd
  have df1 : ((Int.gcd x.num ((y.den : Nat) : Int) : Nat) : Int) ∣ x.num := Int.gcd_dvd_left ..
  have df2 : ((Int.gcd x.num ((y.den : Nat) : Int) : Nat) : Int) ∣ ((y.den : Nat) : Int) := Int.gcd_dvd_right ..
  generalize hf : ((Int.gcd x.num ((y.den : Nat) : Int) : Nat) : Int) = f1 at f0 bf df1 df2 ⊢
  refine ⟨_, rfl, q, _, _, _, rfl, rfl, hq, rfl, _, rfl, p, _, _, _, rfl, rfl, hp, rfl, _, _, rfl, hb, ?_⟩
  have s0 := gpos (a := y.num) (q_ne x)
  have bs := bd_gcdR (a := y.num) (q_ne x) hb
  have ds1 : ((Int.gcd y.num ((x.den : Nat) : Int) : Nat) : Int) ∣ y.num := Int.gcd_dvd_left ..
  have ds2 : ((Int.gcd y.num ((x.den : Nat) : Int) : Nat) : Int) ∣ ((x.den : Nat) : Int) := Int.gcd_dvd_right ..
  generalize hs : ((Int.gcd y.num ((x.den : Nat) : Int) : Nat) : Int) = s1 at s0 bs ds1 ds2 ⊢
  have f1' : f1 ≠ 0 := by omega
  have s1' : s1 ≠ 0 := by omega
  have lf := (bf.mono (n := 9000) (by decide)).log
  have ls := (bs.mono (n := 9000) (by decide)).log
  refine ⟨_, rfl, p, _, _, _, rfl, rfl, hp, rfl, _, rfl, _, _, rfl, rfl, ⟨f1', lf⟩, _, rfl, q, _, _, _, rfl, rfl, hq, rfl, _, rfl, _, _, rfl, rfl, ⟨s1', ls⟩, _, _, rfl, rfl, (bd_quot ha df1 f1').ok (bd_quot hc ds1 s1') (by decide), _, rfl, p, _, _, _, rfl, rfl, hp, rfl, _, rfl, _, _, rfl, rfl, ⟨s1', ls⟩, _, rfl, q, _, _, _, rfl, rfl, hq, rfl, _, rfl, _, _, rfl, rfl, ⟨f1', lf⟩, _, _, rfl, rfl, (bd_quot hb ds2 s1').ok (bd_quot hd df2 f1') (by decide), by show 2 ≤ sizeLine; decide, ?_⟩
  refine rd_new fun r H1 sm hr1 => k r H1 sm ?_
  obtain ⟨e1, e2⟩ := q_times x y f1 s1 hf.symm hs.symm
  have z := SqT.of (K := K) hr1
  dsimp only at z
  rw [e1, e2] at z
  exact z
def sp_mixed (K : PySem.W.Frag) : Sp := fun vs H Q _ => ∃ (p_x : Addr) (x : Rat) (p_y : Addr) (y : Rat) (m : Int) (u : Int) (p_s : Addr) (s : Rat), vs = [.ref p_x, .ref p_y, .int m, .int u, .ref p_s] ∧ FQ K H p_x x ∧ FB 900 x ∧ FQ K H p_y y ∧ FB 900 y ∧ 1 ≤ m ∧ m ≤ 10000 ∧ 1 ≤ u ∧ u ≤ 10000 ∧ FQ K H p_s s ∧ FB 400 s ∧ (∀ (p_r : Addr) (H1 : Hp), Same H H1 → FQ K H1 p_r (mixS x y m u s) → Q (.ref p_r) H1)
theorem sc_mixed : FnScope ["own", "far", "weight", "mass", "share", "both", "kept", "taken"] ["own", "far", "weight", "mass", "share"] (defScope (top 15)) := ⟨rfl, rfl, rfl, by decide +kernel, rfl, by decide +kernel, by decide +kernel⟩
theorem ok_mixed (D : Df K mg "mixed" (top 15) ["own", "far", "weight", "mass", "share"]) (T : Tx K mg) (F_fraction : Fn P w K mg base 2 "fraction" ["top", "bottom"] (sp_fraction K)) (F_times : Fn P w K mg base 2 "times" ["one", "other"] (sp_times K)) (F_plus : Fn P w K mg base 2 "plus" ["one", "other"] (sp_plus K)) : Fn P w K mg base 3 "mixed" ["own", "far", "weight", "mass", "share"] (sp_mixed K) := by
  refine D.ok0 sc_mixed (fun vs H Q E h => ?_) (fun f cdv A outer s H vs Q E hr h => ?_)
  · obtain ⟨p_x, x, p_y, y, m, u, p_s, s, rfl, _⟩ := h
    rfl
  obtain ⟨p_x, x, p_y, y, m, u, p_s, s, rfl, g_x, d_x, g_y, d_y, lo_m, hi_m, lo_u, hi_u, g_s, d_s, k0⟩ := h
  refine ⟨_, (pss_cons (ps_set (i := 5) sc_mixed.nd rfl (Or.inl rfl) (pe_op op_mulB (pe_op op_add (pv 2) (pv 3)) (pe_ix ix_tup (pv 4) pe_int (fun _ _ => rfl))))
      (pss_cons (ps_set (i := 6) sc_mixed.nd rfl (Or.inl rfl) (pe_fn F_times (by decide) hr (by rfl) passE0 (pa_cons (pv 0) (pa_cons (pe_fn F_fraction (by decide) hr (by rfl) passE0 (pa_cons (pe_op op_sub (pe_op op_mulB (pv 2) (pe_ix ix_tup (pv 4) pe_int (fun _ _ => rfl))) (pe_op op_mulB (pv 3) (pe_ix ix_tup (pv 4) pe_int (fun _ _ => rfl)))) (pa_cons (pv 5) pa_nil))) pa_nil))))
      (pss_cons (ps_set (i := 7) sc_mixed.nd rfl (Or.inl rfl) (pe_fn F_times (by decide) hr (by rfl) passE0 (pa_cons (pv 1) (pa_cons (pe_fn F_fraction (by decide) hr (by rfl) passE0 (pa_cons (pe_op op_mulB (pv 3) (pe_op op_add (pe_ix ix_tup (pv 4) pe_int (fun _ _ => rfl)) (pe_ix ix_tup (pv 4) pe_int (fun _ _ => rfl)))) (pa_cons (pv 5) pa_nil))) pa_nil))))
      (pss_one (ps_ret (pe_fn F_plus (by decide) hr (by rfl) passE0 (pa_cons (pv 6) (pa_cons (pv 7) pa_nil)))))))), ?_⟩
  refine ⟨_, rfl, _, rfl, _, _, rfl, rfl, _, rfl, p_s, _, _, _, rfl, rfl, g_s, rfl, _, _, rfl, rfl, ((Bd.add ((Bd.small (i := m) (by omega) (by omega)).mono (n := 64) (by decide)) ((Bd.small (i := u) (by omega) (by omega)).mono (n := 64) (by decide))).ok d_s.2 (by decide)), ?_⟩
  refine ⟨_, rfl, _, rfl, _, rfl, p_s, _, _, _, rfl, rfl, g_s, rfl, _, _, rfl, rfl, ((Bd.small (i := m) (by omega) (by omega)).ok d_s.2 (by decide)), _, rfl, _, rfl, p_s, _, _, _, rfl, rfl, g_s, rfl, _, _, rfl, rfl, ((Bd.small (i := u) (by omega) (by omega)).ok d_s.1 (by decide)), _, _, rfl, rfl, _, rfl, _, _, rfl, ((Bd.mul (Bd.add ((Bd.small (i := m) (by omega) (by omega)).mono (n := 64) (by decide)) ((Bd.small (i := u) (by omega) (by omega)).mono (n := 64) (by decide))) d_s.2).mono (by decide)), (by exact both_ne (by omega) (by omega)), fun p_r1 H1 s1 g_r1 => ?_⟩
  have d_r1 : FB 465 (Rat.divInt (((m * (((s).den : Nat) : Int)) - (u * (s).num))) (((m + u) * (((s).den : Nat) : Int)))) := (FB.mono (FB.fit (by exact both_ne (by omega) (by omega)) ((Bd.sub ((Bd.mul (Bd.small (i := m) (by omega) (by omega)) d_s.2).mono (n := 464) (by decide)) ((Bd.mul (Bd.small (i := u) (by omega) (by omega)) d_s.1).mono (n := 464) (by decide))).mono (n := 465) (by decide)) ((Bd.mul (Bd.add ((Bd.small (i := m) (by omega) (by omega)).mono (n := 64) (by decide)) ((Bd.small (i := u) (by omega) (by omega)).mono (n := 64) (by decide))) d_s.2).mono (n := 465) (by decide))) (by decide))
  replace g_x := (Kw.Same.tup s1 g_x)
  refine ⟨_, _, _, _, rfl, g_x, (FB.mono d_x (by decide)), g_r1, (FB.mono d_r1 (by decide)), fun p_r2 H2 s2 g_r2 => ?_⟩
  have d_r2 : FB 1365 (x * ((Rat.divInt (((m * (((s).den : Nat) : Int)) - (u * (s).num))) (((m + u) * (((s).den : Nat) : Int)))))) := (FB.mono (FB.mul d_x d_r1) (by decide))
  replace g_s := (Kw.Same.tup s2 (Kw.Same.tup s1 g_s))
  refine ⟨_, rfl, _, rfl, _, rfl, p_s, _, _, _, rfl, rfl, g_s, rfl, _, rfl, p_s, _, _, _, rfl, rfl, g_s, rfl, _, _, rfl, rfl, _, _, rfl, rfl, ((Bd.small (i := u) (by omega) (by omega)).ok (Bd.add (d_s.2.mono (n := 400) (by decide)) (d_s.1.mono (n := 400) (by decide))) (by decide)), _, rfl, _, _, rfl, ((Bd.mul (Bd.add ((Bd.small (i := m) (by omega) (by omega)).mono (n := 64) (by decide)) ((Bd.small (i := u) (by omega) (by omega)).mono (n := 64) (by decide))) d_s.2).mono (by decide)), (by exact both_ne (by omega) (by omega)), fun p_r3 H3 s3 g_r3 => ?_⟩
  have d_r3 : FB 465 (Rat.divInt ((u * ((((s).den : Nat) : Int) + (s).num))) (((m + u) * (((s).den : Nat) : Int)))) := (FB.mono (FB.fit (by exact both_ne (by omega) (by omega)) ((Bd.mul (Bd.small (i := u) (by omega) (by omega)) (Bd.add (d_s.2.mono (n := 400) (by decide)) (d_s.1.mono (n := 400) (by decide)))).mono (n := 465) (by decide)) ((Bd.mul (Bd.add ((Bd.small (i := m) (by omega) (by omega)).mono (n := 64) (by decide)) ((Bd.small (i := u) (by omega) (by omega)).mono (n := 64) (by decide))) d_s.2).mono (n := 465) (by decide))) (by decide))
  replace g_y := (Kw.Same.tup s3 (Kw.Same.tup s2 (Kw.Same.tup s1 g_y)))
  refine ⟨_, _, _, _, rfl, g_y, (FB.mono d_y (by decide)), g_r3, (FB.mono d_r3 (by decide)), fun p_r4 H4 s4 g_r4 => ?_⟩
  have d_r4 : FB 1365 (y * ((Rat.divInt ((u * ((((s).den : Nat) : Int) + (s).num))) (((m + u) * (((s).den : Nat) : Int)))))) := (FB.mono (FB.mul d_y d_r3) (by decide))
  replace g_r2 := (Kw.Same.tup s4 (Kw.Same.tup s3 g_r2))
  refine ⟨_, rfl, _, rfl, _, _, _, _, rfl, g_r2, (FB.mono d_r2 (by decide)), g_r4, (FB.mono d_r4 (by decide)), fun p_r5 H5 s5 g_r5 => ?_⟩
  have d_r5 : FB 2731 (((x * ((Rat.divInt (((m * (((s).den : Nat) : Int)) - (u * (s).num))) (((m + u) * (((s).den : Nat) : Int))))))) + ((y * ((Rat.divInt ((u * ((((s).den : Nat) : Int) + (s).num))) (((m + u) * (((s).den : Nat) : Int)))))))) := (FB.mono (FB.add d_r2 d_r4) (by decide))
  have e6 : ((((x * ((Rat.divInt (((m * (((s).den : Nat) : Int)) - (u * (s).num))) (((m + u) * (((s).den : Nat) : Int))))))) + ((y * ((Rat.divInt ((u * ((((s).den : Nat) : Int) + (s).num))) (((m + u) * (((s).den : Nat) : Int)))))))) : Rat) = mixS x y m u s := by rfl
  exact k0 _ _ (s1.trans (s2.trans (s3.trans (s4.trans s5)))) (FQ.cast g_r5 e6)
def sp_speeds_with (K : PySem.W.Frag) : Sp := fun vs H Q _ => ∃ (p_i a_i b_i : Addr) (x_i v_i : Rat) (m_i : Int) (p_j a_j b_j : Addr) (x_j v_j : Rat) (m_j : Int) (p_s : Addr) (s : Rat), vs = [.ref p_i, .ref p_j, .ref p_s] ∧ SqT K H p_i [.ref a_i, .ref b_i, .int m_i] ∧ FQ K H a_i x_i ∧ FQ K H b_i v_i ∧ FB 900 x_i ∧ FB 900 v_i ∧ 1 ≤ m_i ∧ m_i ≤ 10000 ∧ SqT K H p_j [.ref a_j, .ref b_j, .int m_j] ∧ FQ K H a_j x_j ∧ FQ K H b_j v_j ∧ FB 900 x_j ∧ FB 900 v_j ∧ 1 ≤ m_j ∧ m_j ≤ 10000 ∧ FQ K H p_s s ∧ FB 400 s ∧ (∀ (p_r : Addr) (p_l : Addr) (p_g : Addr) (H1 : Hp), Same H H1 → SqT K H1 p_r [.ref p_l, .ref p_g] → FQ K H1 p_l (mixS v_i v_j m_i m_j s) → FQ K H1 p_g (mixS v_j v_i m_j m_i s) → Q (.ref p_r) H1)
theorem sc_speeds_with : FnScope ["one", "other", "share", "left", "right"] ["one", "other", "share"] (defScope (top 17)) := ⟨rfl, rfl, rfl, by decide +kernel, rfl, by decide +kernel, by decide +kernel⟩
theorem ok_speeds_with (D : Df K mg "speeds_with" (top 17) ["one", "other", "share"]) (T : Tx K mg) (F_mixed : Fn P w K mg base 3 "mixed" ["own", "far", "weight", "mass", "share"] (sp_mixed K)) : Fn P w K mg base 4 "speeds_with" ["one", "other", "share"] (sp_speeds_with K) := by
  refine D.ok0 sc_speeds_with (fun vs H Q E h => ?_) (fun f cdv A outer s H vs Q E hr h => ?_)
  · obtain ⟨p_i, a_i, b_i, x_i, v_i, m_i, p_j, a_j, b_j, x_j, v_j, m_j, p_s, s, rfl, _⟩ := h
    rfl
  obtain ⟨p_i, a_i, b_i, x_i, v_i, m_i, p_j, a_j, b_j, x_j, v_j, m_j, p_s, s, rfl, h_i, gx_i, gv_i, dx_i, dv_i, lo_i, hi_i, h_j, gx_j, gv_j, dx_j, dv_j, lo_j, hi_j, g_s, d_s, k0⟩ := h
  refine ⟨_, (pss_cons (ps_set (i := 3) sc_speeds_with.nd rfl (Or.inl rfl) (pe_fn F_mixed (by decide) hr (by rfl) passE0 (pa_cons (pe_ix ix_tup (pv 0) pe_int (fun _ _ => rfl)) (pa_cons (pe_ix ix_tup (pv 1) pe_int (fun _ _ => rfl)) (pa_cons (pe_ix ix_tup (pv 0) pe_int (fun _ _ => rfl)) (pa_cons (pe_ix ix_tup (pv 1) pe_int (fun _ _ => rfl)) (pa_cons (pv 2) pa_nil)))))))
      (pss_cons (ps_set (i := 4) sc_speeds_with.nd rfl (Or.inl rfl) (pe_fn F_mixed (by decide) hr (by rfl) passE0 (pa_cons (pe_ix ix_tup (pv 1) pe_int (fun _ _ => rfl)) (pa_cons (pe_ix ix_tup (pv 0) pe_int (fun _ _ => rfl)) (pa_cons (pe_ix ix_tup (pv 1) pe_int (fun _ _ => rfl)) (pa_cons (pe_ix ix_tup (pv 0) pe_int (fun _ _ => rfl)) (pa_cons (pv 2) pa_nil)))))))
      (pss_one (ps_ret (pe_tup (pa_cons (pv 3) (pa_cons (pv 4) pa_nil))))))), ?_⟩
  refine ⟨_, rfl, p_i, _, _, _, rfl, rfl, h_i, rfl, _, rfl, p_j, _, _, _, rfl, rfl, h_j, rfl, _, rfl, p_i, _, _, _, rfl, rfl, h_i, rfl, _, rfl, p_j, _, _, _, rfl, rfl, h_j, rfl, _, rfl, _, _, _, _, _, _, _, _, rfl, gv_i, (FB.mono dv_i (by decide)), gv_j, (FB.mono dv_j (by decide)), (by omega), (by omega), (by omega), (by omega), g_s, (FB.mono d_s (by decide)), fun p_r7 H7 s7 g_r7 => ?_⟩
  have d_r7 : FB 2733 (mixS v_i v_j m_i m_j s) := (FB.mono (FB.mixS dv_i dv_j d_s (by omega) (by omega) (by omega) (by omega)) (by decide))
  replace h_j := (Kw.Same.tup s7 h_j)
  replace h_i := (Kw.Same.tup s7 h_i)
  replace gv_j := (Kw.Same.tup s7 gv_j)
  replace gv_i := (Kw.Same.tup s7 gv_i)
  replace g_s := (Kw.Same.tup s7 g_s)
  refine ⟨_, rfl, p_j, _, _, _, rfl, rfl, h_j, rfl, _, rfl, p_i, _, _, _, rfl, rfl, h_i, rfl, _, rfl, p_j, _, _, _, rfl, rfl, h_j, rfl, _, rfl, p_i, _, _, _, rfl, rfl, h_i, rfl, _, rfl, _, _, _, _, _, _, _, _, rfl, gv_j, (FB.mono dv_j (by decide)), gv_i, (FB.mono dv_i (by decide)), (by omega), (by omega), (by omega), (by omega), g_s, (FB.mono d_s (by decide)), fun p_r8 H8 s8 g_r8 => ?_⟩
  have d_r8 : FB 2733 (mixS v_j v_i m_j m_i s) := (FB.mono (FB.mixS dv_j dv_i d_s (by omega) (by omega) (by omega) (by omega)) (by decide))
  refine ⟨_, rfl, _, rfl, by show 2 ≤ sizeLine; decide, ?_⟩
  intro p9 n9
  obtain ⟨H9, q9, s9, e9⟩ := newO n9 (.tup [.ref p_r7, .ref p_r8])
  rw [q9]
  clear q9
  have h9 := SqT.of (K := K) e9
  replace g_r7 := (Kw.Same.tup s9 (Kw.Same.tup s8 g_r7))
  replace g_r8 := (Kw.Same.tup s9 g_r8)
  exact k0 _ _ _ _ (s7.trans (s8.trans s9)) h9 g_r7 g_r8
def sp_speeds_after (K : PySem.W.Frag) : Sp := fun vs H Q _ => ∃ (p_i a_i b_i : Addr) (x_i v_i : Rat) (m_i : Int) (p_j a_j b_j : Addr) (x_j v_j : Rat) (m_j : Int), vs = [.ref p_i, .ref p_j] ∧ SqT K H p_i [.ref a_i, .ref b_i, .int m_i] ∧ FQ K H a_i x_i ∧ FQ K H b_i v_i ∧ FB 900 x_i ∧ FB 900 v_i ∧ 1 ≤ m_i ∧ m_i ≤ 10000 ∧ SqT K H p_j [.ref a_j, .ref b_j, .int m_j] ∧ FQ K H a_j x_j ∧ FQ K H b_j v_j ∧ FB 900 x_j ∧ FB 900 v_j ∧ 1 ≤ m_j ∧ m_j ≤ 10000 ∧ (∀ (p_r : Addr) (p_l : Addr) (p_g : Addr) (H1 : Hp), Same H H1 → SqT K H1 p_r [.ref p_l, .ref p_g] → FQ K H1 p_l (mixQ v_i v_j m_i m_j) → FQ K H1 p_g (mixQ v_j v_i m_j m_i) → Q (.ref p_r) H1)
theorem sc_speeds_after : FnScope ["one", "other"] ["one", "other"] (defScope (top 18)) := ⟨rfl, rfl, rfl, by decide +kernel, rfl, by decide +kernel, by decide +kernel⟩
theorem ok_speeds_after (D : Df K mg "speeds_after" (top 18) ["one", "other"]) (T : Tx K mg) (F_speeds_with : Fn P w K mg base 4 "speeds_with" ["one", "other", "share"] (sp_speeds_with K)) : Fn P w K mg base 5 "speeds_after" ["one", "other"] (sp_speeds_after K) := by
  refine D.ok0 sc_speeds_after (fun vs H Q E h => ?_) (fun f cdv A outer s H vs Q E hr h => ?_)
  · obtain ⟨p_i, a_i, b_i, x_i, v_i, m_i, p_j, a_j, b_j, x_j, v_j, m_j, rfl, _⟩ := h
    rfl
  obtain ⟨p_i, a_i, b_i, x_i, v_i, m_i, p_j, a_j, b_j, x_j, v_j, m_j, rfl, h_i, gx_i, gv_i, dx_i, dv_i, lo_i, hi_i, h_j, gx_j, gv_j, dx_j, dv_j, lo_j, hi_j, k0⟩ := h
  refine ⟨_, (pss_one (ps_ret (pe_fn F_speeds_with (by decide) hr (by rfl) passE0 (pa_cons (pv 0) (pa_cons (pv 1) (pa_cons (pe_globT (K := K) rfl (by rfl) T.k_ALL) pa_nil)))))), ?_⟩
  refine ⟨_, rfl, _, rfl, fun N10 hN10 => ?_⟩
  have g10 : FQ K H N10 (((1 : Int)) : Rat) := hN10 _
  refine ⟨_, _, _, _, _, _, _, _, _, _, _, _, _, _, rfl, h_i, gx_i, gv_i, (FB.mono dx_i (by decide)), (FB.mono dv_i (by decide)), (by omega), (by omega), h_j, gx_j, gv_j, (FB.mono dx_j (by decide)), (FB.mono dv_j (by decide)), (by omega), (by omega), g10, (FB.mono (FB.ofInt (Bd.small (i := 1) (by decide) (by decide)) (by decide)) (by decide)), fun p_r11 p_l11 p_g11 H11 s11 h_r11 g_l11 g_g11 => ?_⟩
  have d_l11 : FB 2061 (mixS v_i v_j m_i m_j ((((1 : Int) : Rat)))) := (FB.mono (FB.mixS dv_i dv_j (FB.ofInt (Bd.small (i := 1) (by decide) (by decide)) (by decide)) (by omega) (by omega) (by omega) (by omega)) (by decide))
  have d_g11 : FB 2061 (mixS v_j v_i m_j m_i ((((1 : Int) : Rat)))) := (FB.mono (FB.mixS dv_j dv_i (FB.ofInt (Bd.small (i := 1) (by decide) (by decide)) (by decide)) (by omega) (by omega) (by omega) (by omega)) (by decide))
  have e12 : ((mixS v_i v_j m_i m_j ((((1 : Int) : Rat)))) : Rat) = mixQ v_i v_j m_i m_j := by exact mixS_one _ _ _ _
  have e13 : ((mixS v_j v_i m_j m_i ((((1 : Int) : Rat)))) : Rat) = mixQ v_j v_i m_j m_i := by exact mixS_one _ _ _ _
  exact k0 _ _ _ _ s11 h_r11 (FQ.cast g_l11 e12) (FQ.cast g_g11 e13)
def sp_push_of (K : PySem.W.Frag) : Sp := fun vs H Q _ => ∃ (p_i a_i b_i : Addr) (x_i v_i : Rat) (m_i : Int), vs = [.ref p_i] ∧ SqT K H p_i [.ref a_i, .ref b_i, .int m_i] ∧ FQ K H a_i x_i ∧ FQ K H b_i v_i ∧ FB 1400 x_i ∧ FB 1400 v_i ∧ 1 ≤ m_i ∧ m_i ≤ 10000 ∧ (∀ (p_r : Addr) (H1 : Hp), Same H H1 → FQ K H1 p_r (((m_i : Int) : Rat) * v_i) → Q (.ref p_r) H1)
theorem sc_push_of : FnScope ["body"] ["body"] (defScope (top 19)) := ⟨rfl, rfl, rfl, by decide +kernel, rfl, by decide +kernel, by decide +kernel⟩
theorem ok_push_of (D : Df K mg "push_of" (top 19) ["body"]) (T : Tx K mg) (F_times : Fn P w K mg base 2 "times" ["one", "other"] (sp_times K)) : Fn P w K mg base 3 "push_of" ["body"] (sp_push_of K) := by
  refine D.ok0 sc_push_of (fun vs H Q E h => ?_) (fun f cdv A outer s H vs Q E hr h => ?_)
  · obtain ⟨p_i, a_i, b_i, x_i, v_i, m_i, rfl, _⟩ := h
    rfl
  obtain ⟨p_i, a_i, b_i, x_i, v_i, m_i, rfl, h_i, gx_i, gv_i, dx_i, dv_i, lo_i, hi_i, k0⟩ := h
  refine ⟨_, (pss_one (ps_ret (pe_fn F_times (by decide) hr (by rfl) passE0 (pa_cons (pe_tup (pa_cons (pe_ix ix_tup (pv 0) pe_int (fun _ _ => rfl)) (pa_cons pe_int pa_nil))) (pa_cons (pe_ix ix_tup (pv 0) pe_int (fun _ _ => rfl)) pa_nil))))), ?_⟩
  refine ⟨_, rfl, p_i, _, _, _, rfl, rfl, h_i, rfl, by show 2 ≤ sizeLine; decide, ?_⟩
  intro p14 n14
  obtain ⟨H14, q14, s14, e14⟩ := newO n14 (.tup [.int (m_i), .int ((1 : Int))])
  rw [q14]
  clear q14
  have h14 := SqT.of (K := K) e14
  have g14 : FQ K H14 p14 (((m_i : Int) : Rat)) := by exact FQ.ofInt h14
  replace h_i := (Kw.Same.tup s14 h_i)
  replace gv_i := (Kw.Same.tup s14 gv_i)
  refine ⟨_, rfl, p_i, _, _, _, rfl, rfl, h_i, rfl, _, _, _, _, rfl, g14, (FB.mono (FB.ofInt (Bd.small (i := m_i) (by omega) (by omega)) (by decide)) (by decide)), gv_i, (FB.mono dv_i (by decide)), fun p_r15 H15 s15 g_r15 => ?_⟩
  have d_r15 : FB 1464 (((((m_i : Int) : Rat))) * v_i) := (FB.mono (FB.mul (FB.ofInt (Bd.small (i := m_i) (by omega) (by omega)) (by decide)) dv_i) (by decide))
  exact k0 _ _ (s14.trans s15) g_r15
def sp_total (K : PySem.W.Frag) : Sp := fun vs H Q _ => ∃ (p : Addr) (xs : List V) (qs : List Rat) (n : Nat), vs = [.ref p] ∧ SqL K H p xs ∧ Al2 (FrQ K H n) xs qs ∧ xs.length * (n + 1) + 64 ≤ 4000 ∧ ∀ (r : Addr) (H1 : Hp), Same H H1 → FQ K H1 r (sumQ qs) → Q (.ref r) H1
theorem sc_total : FnScope ["numbers", "whole", "number"] ["numbers"] (defScope (top 20)) := ⟨rfl, rfl, rfl, by decide +kernel, rfl, by decide +kernel, by decide +kernel⟩
theorem ok_total (D : Df K mg "total" (top 20) ["numbers"]) (T : Tx K mg) (F_plus : Fn P w K mg base 2 "plus" ["one", "other"] (sp_plus K)) : Fn P w K mg base 3 "total" ["numbers"] (sp_total K) := by
  refine D.ok0 sc_total (fun vs H Q E h => ?_) (fun f cdv A outer s H vs Q E hr h => ?_)
  · obtain ⟨p, xs, qs, n, rfl, _⟩ := h
    rfl
  obtain ⟨p, xs, qs, n, rfl, hp, hf, hn, k⟩ := h
  refine ⟨_, (pss_cons (ps_set (i := 1) sc_total.nd rfl (Or.inl rfl) (pe_globT (K := K) rfl (by rfl) T.k_NOUGHT))
      (pss_cons (ps_for PassesOwn.never rfl (pi_list (pv 0)) (pg_name (i := 2) sc_total.nd rfl (Or.inl rfl)) (pss_one (ps_set (i := 1) sc_total.nd rfl (Or.inl rfl) (pe_fn F_plus (by decide) hr (by rfl) passE0 (pa_cons (pv 1) (pa_cons (pv 2) pa_nil))))))
      (pss_one (ps_ret (pv 1))))), ?_⟩
  refine fun N hN => ?_
  have g0 : FQ K H N (sumQ (qs.take 0)) := hN _
  have d0 : FB (0 * (n + 1) + 64) (sumQ (qs.take 0)) := (FB.ofInt (n := 64) (i := 0) (Bd.small (by decide) (by decide)) (by decide)).mono (by omega)
  refine ⟨_, rfl, p, rfl, ⟨_, hp⟩, for_list (K := K) (a := p) (xs := xs) (fun i σ1 H1 => ∃ (r : Addr) (nx : Option V), σ1 = [some (.ref p), some (.ref r), nx] ∧ Same H H1 ∧ FQ K H1 r (sumQ (qs.take i)) ∧ FB (i * (n + 1) + 64) (sumQ (qs.take i)))
    ⟨N, _, rfl, Same.refl H, g0, d0⟩ (fun i σ1 H1 _ ⟨_, _, _, g, _⟩ => g.seq hp) ?_ ?_⟩
  · rintro i x σ1 H1 hx ⟨r, nx, rfl, sm, g, d⟩
    obtain ⟨q, hq, p2, rfl, g2, d2⟩ := Al2.get hf hx
    have hi : i < xs.length := (List.getElem?_eq_some_iff.mp hx).1
    have l1 : (i + 1) * (n + 1) ≤ xs.length * (n + 1) := Nat.mul_le_mul_right _ hi
    have l2 : (i + 1) * (n + 1) = i * (n + 1) + n + 1 := by rw [Nat.add_mul]; omega
    have e : sumQ (qs.take i) + q = sumQ (qs.take (i + 1)) := by rw [take_snoc hq, sumQ_snoc]
    refine ⟨_, rfl, _, rfl, _, _, _, _, rfl, g, d.mono (by omega), Kw.Same.tup sm g2, d2.mono (by omega), fun r2 H2 s2 g3 => ?_⟩
    exact ⟨r2, _, rfl, sm.trans s2, g3.cast e, ((d.add d2).mono (by omega)).cast e⟩
  · rintro σ1 H1 ⟨r, nx, rfl, sm, g, _⟩
    have e : qs.take xs.length = qs := by rw [Al2.len hf, List.take_length]
    rw [e] at g
    exact ⟨_, rfl, k r H1 sm g⟩
def sp_push (K : PySem.W.Frag) : Sp := fun vs H Q _ => ∃ (p : Addr) (xs : List V) (bs : List (Rat × Rat × Int)) (n : Nat), vs = [.ref p] ∧ SqL K H p xs ∧ Al2 (BdQ K H n) xs bs ∧ (n ≤ 1400 ∧ bs.length ≤ 100 ∧ bs.length * (64 + n + 1) + 64 ≤ 4000) ∧ ∀ (r : Addr) (H1 : Hp), Same H H1 → FQ K H1 r (pushQ bs) → Q (.ref r) H1
theorem sc_push : FnScope ["bodies"] ["bodies"] (defScope (top 21)) := ⟨rfl, rfl, rfl, by decide +kernel, rfl, by decide +kernel, by decide +kernel⟩
theorem ok_push (D : Df K mg "push" (top 21) ["bodies"]) (T : Tx K mg) (F_push_of : Fn P w K mg base 3 "push_of" ["body"] (sp_push_of K)) (F_total : Fn P w K mg base 3 "total" ["numbers"] (sp_total K)) : Fn P w K mg base 4 "push" ["bodies"] (sp_push K) := by
  refine D.ok0 sc_push (fun vs H Q E h => ?_) (fun f cdv A outer s H vs Q E hr h => ?_)
  · obtain ⟨p, xs, bs, n, rfl, _⟩ := h
    rfl
  obtain ⟨p, xs, bs, n, rfl, hp, hf, ⟨hn, h1, h2⟩, k⟩ := h
  refine ⟨_, (pss_one (ps_ret (pe_fn F_total (by decide) hr (by rfl) passE0 (pa_cons (@pe_lc _ _ _ _ _ _ _ _ _ _ [] [] rfl (pi_list (pv 0)) rfl (by decide) rfl (by decide) rfl (by decide) cap_none (fun _ _ h => nomatch h) (no_free rfl) (fun C z Hc fp => (pe_fn F_push_of (by decide) hr (by rfl) passE0 (pa_cons (pv 0) pa_nil))) (fun _ => rfl)) pa_nil)))), ?_⟩
  have hz := Al2.len hf
  refine ⟨_, rfl, p, rfl, ⟨_, hp⟩, lc_list (K := K) (xs := xs) (fun i ys H1 => i ≤ xs.length ∧ Same H H1 ∧ Al2 (FrQ K H1 (64 + n)) ys ((bs.take i).map fun b => (b.2.2 : Rat) * b.2.1)) ⟨Nat.zero_le _, Same.refl H, trivial⟩ (by rw [hz]; exact Nat.le_trans h1 (by decide)) (fun i ys H1 ⟨l, _, e⟩ => by have := Al2.len e; simp at this; omega) (fun i ys H1 ⟨_, g, _⟩ => g.seq hp) ?_ ?_⟩
  · rintro i x ys H1 Q1 hx ⟨hl, sm, hy⟩ kq
    obtain ⟨b, hb, p2, a2, c2, rfl, e1, e2, e3, d1, d2, w1, w2⟩ := Al2.get hf hx
    have hi : i < xs.length := (List.getElem?_eq_some_iff.mp hx).1
    refine ⟨_, rfl, _, _, _, _, _, _, rfl, Kw.Same.tup sm e1, Kw.Same.tup sm e2, Kw.Same.tup sm e3, d1.mono hn, d2.mono hn, w1, w2, fun r H2 s2 g => ?_⟩
    refine kq _ _ ⟨by omega, sm.trans s2, ?_⟩
    rw [take_snoc hb, List.map_append]
    exact Al2.snoc (frs_same hy s2) ⟨r, rfl, g, (FB.mul (FB.ofInt (Bd.small (i := b.2.2) (by omega) (by omega)) (by decide)) d2).mono (by omega)⟩
  · rintro ys H1 ⟨_, sm, hy⟩ pl hpl
    have s2 := same_new hpl (.lst ys)
    have en : bs.take xs.length = bs := by rw [hz, List.take_length]
    rw [en] at hy
    have hl := Al2.len hy
    rw [List.length_map] at hl
    refine ⟨_, _, _, _, rfl, SqL.of upd_same, frs_same hy s2, by rw [hl]; exact h2, fun r H2 s3 g => ?_⟩
    exact k r H2 (sm.trans (s2.trans s3)) g
def sp_might (K : PySem.W.Frag) : Sp := fun vs H Q _ => ∃ (p : Addr) (xs : List V) (bs : List (Rat × Rat × Int)) (n : Nat), vs = [.ref p] ∧ SqL K H p xs ∧ Al2 (BdQ K H n) xs bs ∧ (n ≤ 1400 ∧ bs.length ≤ 100 ∧ bs.length * (64 + n + n + 1) + 64 ≤ 4000) ∧ ∀ (r : Addr) (H1 : Hp), Same H H1 → FQ K H1 r (mightQ bs) → Q (.ref r) H1
theorem sc_might : FnScope ["bodies"] ["bodies"] (defScope (top 22)) := ⟨rfl, rfl, rfl, by decide +kernel, rfl, by decide +kernel, by decide +kernel⟩
theorem ok_might (D : Df K mg "might" (top 22) ["bodies"]) (T : Tx K mg) (F_push_of : Fn P w K mg base 3 "push_of" ["body"] (sp_push_of K)) (F_times : Fn P w K mg base 2 "times" ["one", "other"] (sp_times K)) (F_total : Fn P w K mg base 3 "total" ["numbers"] (sp_total K)) : Fn P w K mg base 4 "might" ["bodies"] (sp_might K) := by
  refine D.ok0 sc_might (fun vs H Q E h => ?_) (fun f cdv A outer s H vs Q E hr h => ?_)
  · obtain ⟨p, xs, bs, n, rfl, _⟩ := h
    rfl
  obtain ⟨p, xs, bs, n, rfl, hp, hf, ⟨hn, h1, h2⟩, k⟩ := h
  refine ⟨_, (pss_one (ps_ret (pe_fn F_total (by decide) hr (by rfl) passE0 (pa_cons (@pe_lc _ _ _ _ _ _ _ _ _ _ [] [] rfl (pi_list (pv 0)) rfl (by decide) rfl (by decide) rfl (by decide) cap_none (fun _ _ h => nomatch h) (no_free rfl) (fun C z Hc fp => (pe_fn F_times (by decide) hr (by rfl) passE0 (pa_cons (pe_fn F_push_of (by decide) hr (by rfl) passE0 (pa_cons (pv 0) pa_nil)) (pa_cons (pe_ix (ixT (K := K) rfl) (pv 0) pe_int (fun _ _ => rfl)) pa_nil)))) (fun _ => rfl)) pa_nil)))), ?_⟩
  have hz := Al2.len hf
  refine ⟨_, rfl, p, rfl, ⟨_, hp⟩, lc_list (K := K) (xs := xs) (fun i ys H1 => i ≤ xs.length ∧ Same H H1 ∧ Al2 (FrQ K H1 (64 + n + n)) ys ((bs.take i).map fun b => (b.2.2 : Rat) * b.2.1 * b.2.1)) ⟨Nat.zero_le _, Same.refl H, trivial⟩ (by rw [hz]; exact Nat.le_trans h1 (by decide)) (fun i ys H1 ⟨l, _, e⟩ => by have := Al2.len e; simp at this; omega) (fun i ys H1 ⟨_, g, _⟩ => g.seq hp) ?_ ?_⟩
  · rintro i x ys H1 Q1 hx ⟨hl, sm, hy⟩ kq
    obtain ⟨b, hb, p2, a2, c2, rfl, e1, e2, e3, d1, d2, w1, w2⟩ := Al2.get hf hx
    have hi : i < xs.length := (List.getElem?_eq_some_iff.mp hx).1
    refine ⟨_, rfl, _, _, _, _, _, _, rfl, Kw.Same.tup sm e1, Kw.Same.tup sm e2, Kw.Same.tup sm e3, d1.mono hn, d2.mono hn, w1, w2, fun r H2 s2 g => ?_⟩
    have dm : FB (64 + n) ((b.2.2 : Rat) * b.2.1) := FB.mul (FB.ofInt (Bd.small (i := b.2.2) (by omega) (by omega)) (by decide)) d2
    have s12 := sm.trans s2
    refine ⟨_, rfl, p2, _, _, _, rfl, rfl, Kw.Same.tup s12 e1, rfl, _, _, _, _, rfl, g, dm.mono (by omega), Kw.Same.tup s12 e3, d2.mono (by omega), fun r3 H3 s3 g3 => ?_⟩
    refine kq _ _ ⟨by omega, s12.trans s3, ?_⟩
    rw [take_snoc hb, List.map_append]
    exact Al2.snoc (frs_same hy (s2.trans s3)) ⟨r3, rfl, g3, (FB.mul dm d2).mono (by omega)⟩
  · rintro ys H1 ⟨_, sm, hy⟩ pl hpl
    have s2 := same_new hpl (.lst ys)
    have en : bs.take xs.length = bs := by rw [hz, List.take_length]
    rw [en] at hy
    have hl := Al2.len hy
    rw [List.length_map] at hl
    refine ⟨_, _, _, _, rfl, SqL.of upd_same, frs_same hy s2, by rw [hl]; exact h2, fun r H2 s3 g => ?_⟩
    exact k r H2 (sm.trans (s2.trans s3)) g
theorem sc_law_cell : FnScope ["_law_script", "_law_k"] ["_law_script", "_law_k"] (defScope (top 24)) := ⟨rfl, rfl, rfl, by decide +kernel, rfl, by decide +kernel, by decide +kernel⟩
theorem ok_law_cell (D : Df K mg "_law_cell" (top 24) ["_law_script", "_law_k"]) (T : Tx K mg) : Fn P w K mg base 1 "_law_cell" ["_law_script", "_law_k"] (spCell K) := by
  refine D.ok0 sc_law_cell (fun vs H Q E h => ?_) (fun f cdv A outer s H vs Q E hr h => ?_)
  · obtain ⟨a, k, rfl, _⟩ := h
    rfl
  obtain ⟨a, k, rfl, ⟨ns, hS, h63, hbd⟩, k0, k1, q⟩ := h
  refine ⟨_, (pss_cons (ps_if (pt_cmpR op_lt (pv 1) (pe_callB call_len (by rfl) T.b_len PyProof.Rows.Boot.«len» (pa_cons (pv 0) pa_nil)) (nomark _)) (pss_one (ps_ret (pe_ix ix_list (pv 0) (pv 1) (fun _ _ => rfl)))) pss_nil)
      (pss_one (ps_ret (pe_op op_add (pe_op op_mulB pe_int (pv 1)) pe_int)))), ?_⟩
  refine ⟨_, rfl, _, rfl, _, _, rfl, .inl ⟨_, hS, rfl⟩, _, _, rfl, rfl, _, rfl, ?_⟩
  refine if_dec (fun c => ?_) (fun c => ?_)
  · rw [List.length_map] at c
    have hk : k.toNat < ns.length := by omega
    have ek : k = ((k.toNat : Nat) : Int) := by omega
    have z : atI (ns.map V.int) ((k.toNat : Nat) : Int) = some (.int ns[k.toNat]) := atI_nat (by rw [List.getElem?_map, List.getElem?_eq_getElem hk] <;> rfl)
    rw [← ek] at z
    exact ⟨_, rfl, _, rfl, a, _, _, _, rfl, rfl, hS, z, q _ (hbd _ (List.getElem_mem hk))⟩
  · refine ⟨_, rfl, _, _, rfl, rfl, mulOk_smallL (by decide) (by decide), _, _, rfl, rfl, q _ ?_⟩
    exact (Bd.small (by omega) (by omega)).mono (by decide)
theorem sc_law_mix : FnScope ["_law_cell_here", "_law_k", "_law_number"] ["_law_cell_here", "_law_k"] (defScope (top 25)) := ⟨rfl, rfl, rfl, by decide +kernel, rfl, by decide +kernel, by decide +kernel⟩
theorem ok_law_mix (D : Df K mg "_law_mix" (top 25) ["_law_cell_here", "_law_k"]) (T : Tx K mg) : Fn P w K mg base 1 "_law_mix" ["_law_cell_here", "_law_k"] spMix := by
  refine D.ok0 sc_law_mix (fun vs H Q E h => ?_) (fun f cdv A outer s H vs Q E hr h => ?_)
  · obtain ⟨c, k, rfl, _⟩ := h
    rfl
  obtain ⟨c, k, rfl, hc, k0, k1, q⟩ := h
  refine ⟨_, (pss_cons (ps_set (i := 2) sc_law_mix.nd rfl (Or.inl rfl) (pe_op op_add (pe_op op_mulB (pe_op op_add (pv 0) pe_int) pe_int) (pe_op op_mulB pe_int (pv 1))))
      (pss_cons (ps_set (i := 2) sc_law_mix.nd rfl (Or.inl rfl) (pe_op op_add (pe_op op_mod (pe_op op_mulB (pv 2) (pv 2)) pe_int) (pv 1)))
      (pss_one (ps_ret (pe_op op_mod (pe_op op_mulB (pv 2) (pe_op op_add (pv 2) pe_int)) pe_int))))), ?_⟩
  have s1 : ∀ i : Int, -(2 ^ 64) < i → i < 2 ^ 64 → Bd 1048576 i := fun i h1 h2 => (Bd.small h1 h2).mono (by decide)
  have b1 : Bd 1048641 ((c + 1) * 40692) := ((hc.add (s1 1 (by decide) (by decide))).mul (Bd.small (i := 40692) (by decide) (by decide))).mono (by decide)
  have b2 : Bd 1048642 ((c + 1) * 40692 + 104729 * k) := (b1.add ((Bd.small (by omega) (by omega)).mono (by decide))).mono (by decide)
  refine ⟨_, rfl, _, _, rfl, rfl, _, _, rfl, rfl, mulOk_small (by decide) (by decide), _, rfl, _, _, rfl, rfl, mulOk_smallL (by decide) (by decide), _, _, rfl, rfl, ?_⟩
  refine ⟨_, rfl, _, rfl, _, _, rfl, rfl, b2.ok b2 (by decide), _, _, rfl, rfl, (by show (0 : Int) < 2147483399; decide), _, rfl, _, _, rfl, rfl, ?_⟩
  have e0 := Int.emod_nonneg (((c + 1) * 40692 + 104729 * k) * ((c + 1) * 40692 + 104729 * k)) (show (2147483399 : Int) ≠ 0 by decide)
  have e1 := Int.emod_lt_of_pos (((c + 1) * 40692 + 104729 * k) * ((c + 1) * 40692 + 104729 * k)) (show (0 : Int) < 2147483399 by decide)
  exact ⟨_, rfl, _, rfl, _, _, rfl, rfl, _, _, rfl, rfl, mulOk_smallL (by omega) (by omega), _, _, rfl, rfl, (by show (0 : Int) < 2147483563; decide), q _⟩
theorem sc_law_box : FnScope ["_law_script", "_law_k", "_law_here", "_law_number", "_law_j"] ["_law_script", "_law_k"] (defScope (top 26)) := ⟨rfl, rfl, rfl, by decide +kernel, rfl, by decide +kernel, by decide +kernel⟩
theorem ok_law_box (D : Df K mg "_law_box" (top 26) ["_law_script", "_law_k"]) (T : Tx K mg) (F_law_cell : Fn P w K mg base 1 "_law_cell" ["_law_script", "_law_k"] (spCell K)) (F_law_mix : Fn P w K mg base 1 "_law_mix" ["_law_cell_here", "_law_k"] spMix) :
    Fn P w K mg base 2 "_law_box" ["_law_script", "_law_k"] (spBox K) := by
  refine D.ok0 sc_law_box (fun vs H Q E h => ?_) (fun f cdv A outer s H vs Q E hr h => ?_)
  · obtain ⟨a, k, rfl, _⟩ := h
    rfl
  obtain ⟨a, k, rfl, hS, k0, k1, q⟩ := h
  refine ⟨_, (pss_cons (ps_set (i := 2) sc_law_box.nd rfl (Or.inl rfl) (pe_fn F_law_cell (by decide) hr (by rfl) passE0 (pa_cons (pv 0) (pa_cons (pv 1) pa_nil))))
      (pss_cons (ps_if (pt_cmpR op_eq (pe_op op_mod (pv 2) pe_int) pe_int (nomark _)) (pss_one (ps_ret (pe_lst (pa_cons (pe_op op_fdivB (pv 2) pe_int) pa_nil)))) pss_nil)
      (pss_cons (ps_set (i := 3) sc_law_box.nd rfl (Or.inl rfl) pe_int)
      (pss_cons (ps_for PassesOwn.never rfl (pi_range1 (by rfl) T.b_range (pa_cons pe_int pa_nil)) (pg_name (i := 4) sc_law_box.nd rfl (Or.inl rfl)) (pss_one (ps_set (i := 3) sc_law_box.nd rfl (Or.inl rfl) (pe_op op_add (pe_op op_mulB (pv 3) pe_int) (pe_fn F_law_mix (by decide) hr (by rfl) passE0 (pa_cons (pv 2) (pa_cons (pv 4) pa_nil)))))))
      (pss_one (ps_ret (pe_lst (pa_cons (pv 3) pa_nil)))))))), ?_⟩
  refine ⟨_, rfl, _, rfl, a, k, rfl, hS, k0, k1, fun c hc => ?_⟩
  refine ⟨_, rfl, _, _, rfl, rfl, (by show (0 : Int) < 2; decide), rfl, _, rfl, ?_⟩
  refine if_decI (fun z => ?_) (fun z => ?_)
  · refine ⟨_, rfl, _, _, rfl, rfl, ⟨by decide, by decide +kernel⟩, (by show 1 ≤ sizeLine; decide), fun p hp => ?_⟩
    exact q p _ _ hp (same_new hp _) upd_same
  refine ⟨_, rfl, by decide, by decide, for_range (n := 16) (fun i σ' H' => ∃ (n : Int) (r : Option V), σ' = [some (.ref a), some (.int k), some (.int c), some (.int n), r] ∧ H' = H) ⟨_, _, rfl, rfl⟩ ?_ ?_⟩
  · rintro i σ' H' hi ⟨n, r, rfl, rfl⟩
    refine ⟨_, rfl, _, _, rfl, rfl, mulOk_small (by decide) (by decide), _, rfl, _, rfl, c, _, rfl, hc, by omega, by omega, fun m => ?_⟩
    exact ⟨_, _, rfl, rfl, _, _, rfl, rfl⟩
  · rintro σ' H' ⟨n, r, rfl, rfl⟩
    refine ⟨_, rfl, (by show 1 ≤ sizeLine; decide), fun p hp => ?_⟩
    exact q p _ _ hp (same_new hp _) upd_same
theorem sc_law_take : FnScope ["_law_box_here", "_law_many", "_law_left", "_law_digit"] ["_law_box_here", "_law_many"] (defScope (top 27)) := ⟨rfl, rfl, rfl, by decide +kernel, rfl, by decide +kernel, by decide +kernel⟩
theorem ok_law_take (D : Df K mg "_law_take" (top 27) ["_law_box_here", "_law_many"]) (T : Tx K mg) : Fn P w K mg base 1 "_law_take" ["_law_box_here", "_law_many"] spTake := by
  refine D.ok0 sc_law_take (fun vs H Q E h => ?_) (fun f cdv A outer s H vs Q E hr h => ?_)
  · obtain ⟨b, m, n, rfl, _⟩ := h
    rfl
  obtain ⟨b, m, n, rfl, hb, m0, hm, q⟩ := h
  refine ⟨_, (pss_cons (ps_asg (pe_callB call_divmodB (by rfl) T.b_divmod PyProof.Rows.Boot.«divmod» (pa_cons (pe_ix ix_list (pv 0) pe_int (fun _ _ => rfl)) (pa_cons (pv 1) pa_nil))) (pg_tup rfl (pgs_cons (pg_name (i := 2) sc_law_take.nd rfl (Or.inl rfl)) (pgs_cons (pg_name (i := 3) sc_law_take.nd rfl (Or.inl rfl)) pgs_nil))))
      (pss_cons (ps_asg (pv 2) (pg_sub (pv 0) pe_int set_list))
      (pss_one (ps_ret (pv 3))))), ?_⟩
  refine ⟨_, rfl, b, _, _, _, rfl, rfl, SqL.of hb, rfl, _, rfl, n, m, rfl, ⟨m0, hm.log⟩, ?_⟩
  intro p hp0
  have sm := same_new hp0 (.tup [.int (n / m), .int (n % m)])
  have hp : upd H p (.tup [.int (n / m), .int (n % m)]) p = some (.tup [.int (n / m), .int (n % m)]) := upd_same
  refine ⟨p, _, rfl, SqT.of hp, rfl, _, _, rfl, _, _, rfl, rfl, ?_⟩
  refine ⟨_, rfl, _, rfl, b, _, _, 0, rfl, rfl, sm _ _ hb, rfl, _, rfl, ?_⟩
  have d0 := Int.emod_nonneg n (show m ≠ 0 by omega)
  have d1 := Int.emod_lt_of_pos n m0
  exact q (n % m) (n / m) _ d0 d1 ((But.of sm).trans (but_upd _)) upd_same
theorem sc_law_fit : FnScope ["_law_top", "_law_bottom", "_law_one", "_law_other"] ["_law_top", "_law_bottom"] (defScope (top 28)) := ⟨rfl, rfl, rfl, by decide +kernel, rfl, by decide +kernel, by decide +kernel⟩
theorem ok_law_fit0 (D : Df K mg "_law_fit" (top 28) ["_law_top", "_law_bottom"]) (T : Tx K mg) : Fn P w K mg base 1 "_law_fit" ["_law_top", "_law_bottom"] spFit := by
  refine D.ok0 sc_law_fit (fun vs H Q E h => ?_) (fun f cdv A outer s H vs Q E hr h => ?_)
  · obtain ⟨a, b, rfl, _⟩ := h
    rfl
  obtain ⟨a, b, rfl, c, hb, hq⟩ := h
  refine ⟨_, (pss_cons (ps_par (i := 2) (j := 3) rfl sc_law_fit.nd rfl rfl (by decide) rfl rfl (pa_cons (pe_callB call_abs (by rfl) T.b_abs PyProof.Rows.Boot.«abs» (pa_cons (pv 0) pa_nil)) (pa_cons (pe_callB call_abs (by rfl) T.b_abs PyProof.Rows.Boot.«abs» (pa_cons (pv 1) pa_nil)) pa_nil)) rfl)
      (pss_cons (ps_while PassesOwn.never (pt_cmpR op_gt (pv 3) pe_int (nomark _)) (pss_one (ps_par (i := 2) (j := 3) rfl sc_law_fit.nd rfl rfl (by decide) rfl rfl (pa_cons (pv 3) (pa_cons (pe_op op_mod (pv 2) (pv 3)) pa_nil)) rfl)))
      (pss_cons (ps_if (pt_cmpR op_lt (pv 1) pe_int (nomark _)) (pss_one (ps_set (i := 2) sc_law_fit.nd rfl (Or.inl rfl) (pe_op op_sub pe_int (pv 2)))) pss_nil)
      (pss_one (ps_ret (pe_tup (pa_cons (pe_op op_fdivB (pv 0) (pv 2)) (pa_cons (pe_op op_fdivB (pv 1) (pv 2)) pa_nil)))))))), ?_⟩
  refine ⟨_, rfl, _, rfl, _, rfl, _, rfl, _, _, rfl, ?_⟩
  refine ⟨fun m σ' H' => ∃ g s : Int, σ' = [some (.int a), some (.int b), some (.int g), some (.int s)] ∧ H' = H ∧ 0 ≤ g ∧ 0 ≤ s ∧ m = s.toNat ∧ Int.gcd g s = Int.gcd a b, ⟨_, _, _, rfl, rfl, abs_nn a, abs_nn b, rfl, gcd_abs a b⟩, ?_⟩
  rintro m σ' H' ⟨g, s, rfl, rfl, hg, hs, rfl, e⟩
  refine ⟨_, rfl, _, _, rfl, rfl, _, rfl, ?_⟩
  refine if_dec (fun c => ?_) (fun z => ?_)
  · refine ⟨_, fun _ _ n => n, ?_⟩
    refine ⟨_, rfl, _, rfl, _, rfl, _, _, rfl, rfl, c, _, _, rfl, ?_⟩
    have l := Int.emod_lt_of_pos g c
    have l0 := Int.emod_nonneg g (show s ≠ 0 by omega)
    exact ⟨_, by omega, s, g % s, rfl, rfl, by omega, l0, rfl, (gcd_step g s hg c).trans e⟩
  · have s0 : s = 0 := by omega
    subst s0
    have z := gcd_end g hg
    rw [e] at z
    subst z
    have hd : (if b < 0 then -((Int.gcd a b : Nat) : Int) else ((Int.gcd a b : Nat) : Int)) = dv a b := rfl
    have lg := (bd_dv (t := a) c hb).log
    refine ⟨_, rfl, _, _, rfl, rfl, _, rfl, ?_⟩
    refine if_dec (fun n => ?_) (fun n => ?_)
    · rw [if_pos n] at hd
      refine ⟨_, rfl, _, _, rfl, rfl, ?_⟩
      dsimp only
      rw [show (0 : Int) - ((Int.gcd a b : Nat) : Int) = dv a b by rw [← hd]; omega]
      refine ⟨_, rfl, _, rfl, _, _, rfl, rfl, ⟨dv_ne c, lg⟩, _, rfl, _, rfl, _, _, rfl, rfl, ⟨dv_ne c, lg⟩, by show 2 ≤ sizeLine; decide, ?_⟩
      exact rd_new fun p H' sm hp => hq p H' sm hp
    · rw [if_neg n] at hd
      rw [hd]
      refine ⟨_, rfl, _, rfl, _, _, rfl, rfl, ⟨dv_ne c, lg⟩, _, rfl, _, rfl, _, _, rfl, rfl, ⟨dv_ne c, lg⟩, by show 2 ≤ sizeLine; decide, ?_⟩
      exact rd_new fun p H' sm hp => hq p H' sm hp
def sp_law_fit (K : PySem.W.Frag) : Sp := fun vs H Q _ => ∃ (a : Int) (b : Int), vs = [.int a, .int b] ∧ Bd 9000 b ∧ b ≠ 0 ∧ (∀ (p_r : Addr) (H1 : Hp), Same H H1 → FQ K H1 p_r (Rat.divInt a b) → Q (.ref p_r) H1)
theorem ok_law_fit (D : Df K mg "_law_fit" (top 28) ["_law_top", "_law_bottom"]) (T : Tx K mg) : Fn P w K mg base 1 "_law_fit" ["_law_top", "_law_bottom"] (sp_law_fit K) :=
  (ok_law_fit0 D T).imp fun vs H Q E h => by
    obtain ⟨a, b, rfl, hb, b0, k⟩ := h
    exact ⟨a, b, rfl, b0, hb, fun p H' s e => k p H' s (FQ.fit b0 (SqT.of e))⟩
def sp_law_plus (K : PySem.W.Frag) : Sp := fun vs H Q _ => ∃ (p_x : Addr) (x : Rat) (p_y : Addr) (y : Rat), vs = [.ref p_x, .ref p_y] ∧ FQ K H p_x x ∧ FB 4400 x ∧ FQ K H p_y y ∧ FB 4400 y ∧ (∀ (p_r : Addr) (H1 : Hp), Same H H1 → FQ K H1 p_r (x + y) → Q (.ref p_r) H1)
theorem sc_law_plus : FnScope ["_law_one", "_law_other"] ["_law_one", "_law_other"] (defScope (top 29)) := ⟨rfl, rfl, rfl, by decide +kernel, rfl, by decide +kernel, by decide +kernel⟩
theorem ok_law_plus (D : Df K mg "_law_plus" (top 29) ["_law_one", "_law_other"]) (T : Tx K mg) (F_law_fit : Fn P w K mg base 1 "_law_fit" ["_law_top", "_law_bottom"] (sp_law_fit K)) : Fn P w K mg base 2 "_law_plus" ["_law_one", "_law_other"] (sp_law_plus K) := by
  refine D.ok0 sc_law_plus (fun vs H Q E h => ?_) (fun f cdv A outer s H vs Q E hr h => ?_)
  · obtain ⟨p_x, x, p_y, y, rfl, _⟩ := h
    rfl
  obtain ⟨p_x, x, p_y, y, rfl, g_x, d_x, g_y, d_y, k0⟩ := h
  refine ⟨_, (pss_one (ps_ret (pe_fn F_law_fit (by decide) hr (by rfl) passE0 (pa_cons (pe_op op_add (pe_op op_mulB (pe_ix ix_tup (pv 0) pe_int (fun _ _ => rfl)) (pe_ix ix_tup (pv 1) pe_int (fun _ _ => rfl))) (pe_op op_mulB (pe_ix ix_tup (pv 1) pe_int (fun _ _ => rfl)) (pe_ix ix_tup (pv 0) pe_int (fun _ _ => rfl)))) (pa_cons (pe_op op_mulB (pe_ix ix_tup (pv 0) pe_int (fun _ _ => rfl)) (pe_ix ix_tup (pv 1) pe_int (fun _ _ => rfl))) pa_nil))))), ?_⟩
  refine ⟨_, rfl, p_x, _, _, _, rfl, rfl, g_x, rfl, _, rfl, p_y, _, _, _, rfl, rfl, g_y, rfl, _, _, rfl, rfl, (d_x.1.ok d_y.2 (by decide)), _, rfl, p_y, _, _, _, rfl, rfl, g_y, rfl, _, rfl, p_x, _, _, _, rfl, rfl, g_x, rfl, _, _, rfl, rfl, (d_y.1.ok d_x.2 (by decide)), _, _, rfl, rfl, _, rfl, p_x, _, _, _, rfl, rfl, g_x, rfl, _, rfl, p_y, _, _, _, rfl, rfl, g_y, rfl, _, _, rfl, rfl, (d_x.2.ok d_y.2 (by decide)), _, _, rfl, ((Bd.mul d_x.2 d_y.2).mono (by decide)), (by exact Int.mul_ne_zero (q_ne _) (q_ne _)), fun p_r16 H16 s16 g_r16 => ?_⟩
  have d_r16 : FB 8801 (Rat.divInt ((((x).num * (((y).den : Nat) : Int)) + ((y).num * (((x).den : Nat) : Int)))) (((((x).den : Nat) : Int) * (((y).den : Nat) : Int)))) := (FB.mono (FB.fit (by exact Int.mul_ne_zero (q_ne _) (q_ne _)) ((Bd.add ((Bd.mul d_x.1 d_y.2).mono (n := 8800) (by decide)) ((Bd.mul d_y.1 d_x.2).mono (n := 8800) (by decide))).mono (n := 8801) (by decide)) ((Bd.mul d_x.2 d_y.2).mono (n := 8801) (by decide))) (by decide))
  have e17 : ((Rat.divInt ((((x).num * (((y).den : Nat) : Int)) + ((y).num * (((x).den : Nat) : Int)))) (((((x).den : Nat) : Int) * (((y).den : Nat) : Int)))) : Rat) = x + y := by exact q_add x y
  exact k0 _ _ s16 (FQ.cast g_r16 e17)
def sp_law_minus (K : PySem.W.Frag) : Sp := fun vs H Q _ => ∃ (p_x : Addr) (x : Rat) (p_y : Addr) (y : Rat), vs = [.ref p_x, .ref p_y] ∧ FQ K H p_x x ∧ FB 4400 x ∧ FQ K H p_y y ∧ FB 4400 y ∧ (∀ (p_r : Addr) (H1 : Hp), Same H H1 → FQ K H1 p_r (x - y) → Q (.ref p_r) H1)
theorem sc_law_minus : FnScope ["_law_one", "_law_other"] ["_law_one", "_law_other"] (defScope (top 30)) := ⟨rfl, rfl, rfl, by decide +kernel, rfl, by decide +kernel, by decide +kernel⟩
theorem ok_law_minus (D : Df K mg "_law_minus" (top 30) ["_law_one", "_law_other"]) (T : Tx K mg) (F_law_fit : Fn P w K mg base 1 "_law_fit" ["_law_top", "_law_bottom"] (sp_law_fit K)) : Fn P w K mg base 2 "_law_minus" ["_law_one", "_law_other"] (sp_law_minus K) := by
  refine D.ok0 sc_law_minus (fun vs H Q E h => ?_) (fun f cdv A outer s H vs Q E hr h => ?_)
  · obtain ⟨p_x, x, p_y, y, rfl, _⟩ := h
    rfl
  obtain ⟨p_x, x, p_y, y, rfl, g_x, d_x, g_y, d_y, k0⟩ := h
  refine ⟨_, (pss_one (ps_ret (pe_fn F_law_fit (by decide) hr (by rfl) passE0 (pa_cons (pe_op op_sub (pe_op op_mulB (pe_ix ix_tup (pv 0) pe_int (fun _ _ => rfl)) (pe_ix ix_tup (pv 1) pe_int (fun _ _ => rfl))) (pe_op op_mulB (pe_ix ix_tup (pv 1) pe_int (fun _ _ => rfl)) (pe_ix ix_tup (pv 0) pe_int (fun _ _ => rfl)))) (pa_cons (pe_op op_mulB (pe_ix ix_tup (pv 0) pe_int (fun _ _ => rfl)) (pe_ix ix_tup (pv 1) pe_int (fun _ _ => rfl))) pa_nil))))), ?_⟩
  refine ⟨_, rfl, p_x, _, _, _, rfl, rfl, g_x, rfl, _, rfl, p_y, _, _, _, rfl, rfl, g_y, rfl, _, _, rfl, rfl, (d_x.1.ok d_y.2 (by decide)), _, rfl, p_y, _, _, _, rfl, rfl, g_y, rfl, _, rfl, p_x, _, _, _, rfl, rfl, g_x, rfl, _, _, rfl, rfl, (d_y.1.ok d_x.2 (by decide)), _, _, rfl, rfl, _, rfl, p_x, _, _, _, rfl, rfl, g_x, rfl, _, rfl, p_y, _, _, _, rfl, rfl, g_y, rfl, _, _, rfl, rfl, (d_x.2.ok d_y.2 (by decide)), _, _, rfl, ((Bd.mul d_x.2 d_y.2).mono (by decide)), (by exact Int.mul_ne_zero (q_ne _) (q_ne _)), fun p_r18 H18 s18 g_r18 => ?_⟩
  have d_r18 : FB 8801 (Rat.divInt ((((x).num * (((y).den : Nat) : Int)) - ((y).num * (((x).den : Nat) : Int)))) (((((x).den : Nat) : Int) * (((y).den : Nat) : Int)))) := (FB.mono (FB.fit (by exact Int.mul_ne_zero (q_ne _) (q_ne _)) ((Bd.sub ((Bd.mul d_x.1 d_y.2).mono (n := 8800) (by decide)) ((Bd.mul d_y.1 d_x.2).mono (n := 8800) (by decide))).mono (n := 8801) (by decide)) ((Bd.mul d_x.2 d_y.2).mono (n := 8801) (by decide))) (by decide))
  have e19 : ((Rat.divInt ((((x).num * (((y).den : Nat) : Int)) - ((y).num * (((x).den : Nat) : Int)))) (((((x).den : Nat) : Int) * (((y).den : Nat) : Int)))) : Rat) = x - y := by exact q_sub x y
  exact k0 _ _ s18 (FQ.cast g_r18 e19)
def sp_law_times (K : PySem.W.Frag) : Sp := fun vs H Q _ => ∃ (p_x : Addr) (x : Rat) (p_y : Addr) (y : Rat), vs = [.ref p_x, .ref p_y] ∧ FQ K H p_x x ∧ FB 4400 x ∧ FQ K H p_y y ∧ FB 4400 y ∧ (∀ (p_r : Addr) (H1 : Hp), Same H H1 → FQ K H1 p_r (x * y) → Q (.ref p_r) H1)
theorem sc_law_times : FnScope ["_law_one", "_law_other"] ["_law_one", "_law_other"] (defScope (top 31)) := ⟨rfl, rfl, rfl, by decide +kernel, rfl, by decide +kernel, by decide +kernel⟩
theorem ok_law_times (D : Df K mg "_law_times" (top 31) ["_law_one", "_law_other"]) (T : Tx K mg) (F_law_fit : Fn P w K mg base 1 "_law_fit" ["_law_top", "_law_bottom"] (sp_law_fit K)) : Fn P w K mg base 2 "_law_times" ["_law_one", "_law_other"] (sp_law_times K) := by
  refine D.ok0 sc_law_times (fun vs H Q E h => ?_) (fun f cdv A outer s H vs Q E hr h => ?_)
  · obtain ⟨p_x, x, p_y, y, rfl, _⟩ := h
    rfl
  obtain ⟨p_x, x, p_y, y, rfl, g_x, d_x, g_y, d_y, k0⟩ := h
  refine ⟨_, (pss_one (ps_ret (pe_fn F_law_fit (by decide) hr (by rfl) passE0 (pa_cons (pe_op op_mulB (pe_ix ix_tup (pv 0) pe_int (fun _ _ => rfl)) (pe_ix ix_tup (pv 1) pe_int (fun _ _ => rfl))) (pa_cons (pe_op op_mulB (pe_ix ix_tup (pv 0) pe_int (fun _ _ => rfl)) (pe_ix ix_tup (pv 1) pe_int (fun _ _ => rfl))) pa_nil))))), ?_⟩
  refine ⟨_, rfl, p_x, _, _, _, rfl, rfl, g_x, rfl, _, rfl, p_y, _, _, _, rfl, rfl, g_y, rfl, _, _, rfl, rfl, (d_x.1.ok d_y.1 (by decide)), _, rfl, p_x, _, _, _, rfl, rfl, g_x, rfl, _, rfl, p_y, _, _, _, rfl, rfl, g_y, rfl, _, _, rfl, rfl, (d_x.2.ok d_y.2 (by decide)), _, _, rfl, ((Bd.mul d_x.2 d_y.2).mono (by decide)), (by exact Int.mul_ne_zero (q_ne _) (q_ne _)), fun p_r20 H20 s20 g_r20 => ?_⟩
  have d_r20 : FB 8800 (Rat.divInt (((x).num * (y).num)) (((((x).den : Nat) : Int) * (((y).den : Nat) : Int)))) := (FB.mono (FB.fit (by exact Int.mul_ne_zero (q_ne _) (q_ne _)) ((Bd.mul d_x.1 d_y.1).mono (n := 8800) (by decide)) ((Bd.mul d_x.2 d_y.2).mono (n := 8800) (by decide))) (by decide))
  have e21 : ((Rat.divInt (((x).num * (y).num)) (((((x).den : Nat) : Int) * (((y).den : Nat) : Int)))) : Rat) = x * y := by exact q_mul x y
  exact k0 _ _ s20 (FQ.cast g_r20 e21)
def sp_law_drawn (K : PySem.W.Frag) : Sp := fun vs H Q _ => ∃ (bx : Addr) (n_bx : Int), vs = [.ref bx] ∧ H bx = some (.lst [.int n_bx]) ∧ (∀ (p_r : Addr) (r : Rat) (H1 : Hp) (n1 : Int), But bx H H1 → H1 bx = some (.lst [.int n1]) → FQ K H1 p_r (r) → FB 70 r → Q (.ref p_r) H1)
theorem sc_law_drawn : FnScope ["_law_box_here"] ["_law_box_here"] (defScope (top 32)) := ⟨rfl, rfl, rfl, by decide +kernel, rfl, by decide +kernel, by decide +kernel⟩
theorem ok_law_drawn (D : Df K mg "_law_drawn" (top 32) ["_law_box_here"]) (T : Tx K mg) (F_law_take : Fn P w K mg base 1 "_law_take" ["_law_box_here", "_law_many"] spTake) (F_law_fit : Fn P w K mg base 1 "_law_fit" ["_law_top", "_law_bottom"] (sp_law_fit K)) : Fn P w K mg base 2 "_law_drawn" ["_law_box_here"] (sp_law_drawn K) := by
  refine D.ok0 sc_law_drawn (fun vs H Q E h => ?_) (fun f cdv A outer s H vs Q E hr h => ?_)
  · obtain ⟨bx, n_bx, rfl, _⟩ := h
    rfl
  obtain ⟨bx, n_bx, rfl, hb_bx, k0⟩ := h
  refine ⟨_, (pss_cons (ps_if (pt_cmpR op_eq (pe_fn F_law_take (by decide) hr (by rfl) passE0 (pa_cons (pv 0) (pa_cons pe_int pa_nil))) pe_int (nomark _)) (pss_one (ps_ret (pe_fn F_law_fit (by decide) hr (by rfl) passE0 (pa_cons (pe_op op_sub (pe_fn F_law_take (by decide) hr (by rfl) passE0 (pa_cons (pv 0) (pa_cons (pe_op op_pow pe_int pe_int) pa_nil))) (pe_op op_mulB pe_int (pe_op op_pow pe_int pe_int))) (pa_cons (pe_op op_add pe_int (pe_fn F_law_take (by decide) hr (by rfl) passE0 (pa_cons (pv 0) (pa_cons (pe_op op_pow pe_int pe_int) pa_nil)))) pa_nil))))) pss_nil)
      (pss_one (ps_ret (pe_fn F_law_fit (by decide) hr (by rfl) passE0 (pa_cons (pe_op op_sub (pe_fn F_law_take (by decide) hr (by rfl) passE0 (pa_cons (pv 0) (pa_cons pe_int pa_nil))) pe_int) (pa_cons (pe_ix ix_list (pe_lst (pa_cons pe_int (pa_cons pe_int (pa_cons pe_int (pa_cons pe_int pa_nil))))) (pe_fn F_law_take (by decide) hr (by rfl) passE0 (pa_cons (pv 0) (pa_cons pe_int pa_nil))) (fun _ _ => rfl)) pa_nil)))))), ?_⟩
  refine ⟨_, rfl, _, _, _, rfl, hb_bx, (by decide +kernel), ((Bd.small (i := (8 : Int)) (by decide) (by decide)).mono (by decide)), fun d22 n22 H22 lo22 hi22 s22 hb22 => ?_⟩
  refine ⟨rfl, _, rfl, ?_⟩
  refine if_decI (fun c23 => ?_) (fun c23 => ?_)
  · skip
    refine ⟨_, rfl, _, _, rfl, rfl, ⟨by decide, by decide, by decide⟩, _, _, _, rfl, hb22, (by decide +kernel), ((Bd.small (i := (((10 : Int)) ^ (Int.toNat (10 : Int)))) (by decide +kernel) (by decide +kernel)).mono (by decide)), fun d24 n24 H24 lo24 hi24 s24 hb24 => ?_⟩
    rw [show (((10 : Int)) ^ (Int.toNat (10 : Int))) = (10000000000 : Int) by decide +kernel] at hi24
    refine ⟨_, _, rfl, rfl, ⟨by decide, by decide, by decide⟩, _, _, rfl, rfl, ((Bd.small (i := (5 : Int)) (by decide) (by decide)).ok (Bd.small (i := (((10 : Int)) ^ (Int.toNat (9 : Int)))) (by decide +kernel) (by decide +kernel)) (by decide)), _, _, rfl, rfl, _, rfl, _, _, rfl, rfl, ⟨by decide, by decide, by decide⟩, _, _, _, rfl, hb24, (by decide +kernel), ((Bd.small (i := (((10 : Int)) ^ (Int.toNat (3 : Int)))) (by decide +kernel) (by decide +kernel)).mono (by decide)), fun d25 n25 H25 lo25 hi25 s25 hb25 => ?_⟩
    rw [show (((10 : Int)) ^ (Int.toNat (3 : Int))) = (1000 : Int) by decide +kernel] at hi25
    refine ⟨_, _, rfl, rfl, _, _, rfl, ((Bd.add ((Bd.small (i := (1 : Int)) (by decide) (by decide)).mono (n := 64) (by decide)) ((Bd.small (i := d25) (by omega) (by omega)).mono (n := 64) (by decide))).mono (by decide)), (by omega), fun p_r26 H26 s26 g_r26 => ?_⟩
    have hB27 := s26 _ _ hb25
    have d_r26 : FB 65 (Rat.divInt ((d24 - ((5 : Int) * (((10 : Int)) ^ (Int.toNat (9 : Int)))))) (((1 : Int) + d25))) := (FB.mono (FB.fit (by omega) ((Bd.sub ((Bd.small (i := d24) (by omega) (by omega)).mono (n := 64) (by decide)) ((Bd.small (i := ((5 : Int) * (((10 : Int)) ^ (Int.toNat (9 : Int))))) (by decide +kernel) (by decide +kernel)).mono (n := 64) (by decide))).mono (n := 65) (by decide)) ((Bd.add ((Bd.small (i := (1 : Int)) (by decide) (by decide)).mono (n := 64) (by decide)) ((Bd.small (i := d25) (by omega) (by omega)).mono (n := 64) (by decide))).mono (n := 65) (by decide))) (by decide))
    exact k0 _ _ _ _ (s22.trans (s24.trans (s25.trans (But.of s26)))) hB27 g_r26 (FB.mono d_r26 (by decide))
  · skip
    refine ⟨_, rfl, _, _, _, rfl, hb22, (by decide +kernel), ((Bd.small (i := (25 : Int)) (by decide) (by decide)).mono (by decide)), fun d28 n28 H28 lo28 hi28 s28 hb28 => ?_⟩
    refine ⟨_, _, rfl, rfl, by show 4 ≤ sizeLine; decide, ?_⟩
    intro p29 n29
    obtain ⟨H29, q29, s29, e29⟩ := newO n29 (.lst [.int ((1 : Int)), .int ((1 : Int)), .int ((2 : Int)), .int ((3 : Int))])
    rw [q29]
    clear q29
    have hB30 := s29 _ _ hb28
    have h29 := SqL.of (K := K) e29
    have ap29 : p29 ≠ bx := fun z => by rw [z, hb28] at n29; cases n29
    refine ⟨_, rfl, _, _, _, rfl, hB30, (by decide +kernel), ((Bd.small (i := (4 : Int)) (by decide) (by decide)).mono (by decide)), fun d31 n31 H31 lo31 hi31 s31 hb31 => ?_⟩
    obtain ⟨v32, ev32, m33⟩ := atI_mem ([(1 : Int), (1 : Int), (2 : Int), (3 : Int)] : List Int) d31 (by omega) (by show _ < (4 : Int); omega)
    have bv32 : 1 ≤ v32 ∧ v32 ≤ 3 := (show ∀ z ∈ ([(1 : Int), (1 : Int), (2 : Int), (3 : Int)] : List Int), 1 ≤ z ∧ z ≤ 3 by decide +kernel) v32 m33
    replace h29 := (But.seq s31 ap29 h29)
    refine ⟨p29, _, _, _, rfl, rfl, h29, ev32, _, _, rfl, ((Bd.small (i := v32) (by omega) (by omega)).mono (by decide)), (by omega), fun p_r34 H34 s34 g_r34 => ?_⟩
    have hB35 := s34 _ _ hb31
    have d_r34 : FB 65 (Rat.divInt ((d28 - (12 : Int))) v32) := (FB.mono (FB.fit (by omega) ((Bd.sub ((Bd.small (i := d28) (by omega) (by omega)).mono (n := 64) (by decide)) ((Bd.small (i := (12 : Int)) (by decide) (by decide)).mono (n := 64) (by decide))).mono (n := 65) (by decide)) ((Bd.small (i := v32) (by omega) (by omega)).mono (n := 65) (by decide))) (by decide))
    exact k0 _ _ _ _ (s22.trans (s28.trans ((But.of s29).trans (s31.trans (But.of s34))))) hB35 g_r34 (FB.mono d_r34 (by decide))
def sp_law_weight (K : PySem.W.Frag) : Sp := fun vs H Q _ => ∃ (bx : Addr) (n_bx : Int), vs = [.ref bx] ∧ H bx = some (.lst [.int n_bx]) ∧ (∀ (r : Int) (H1 : Hp) (n1 : Int), But bx H H1 → H1 bx = some (.lst [.int n1]) → 1 ≤ r → r ≤ 1000 → Q (.int r) H1)
theorem sc_law_weight : FnScope ["_law_box_here"] ["_law_box_here"] (defScope (top 33)) := ⟨rfl, rfl, rfl, by decide +kernel, rfl, by decide +kernel, by decide +kernel⟩
theorem ok_law_weight (D : Df K mg "_law_weight" (top 33) ["_law_box_here"]) (T : Tx K mg) (F_law_take : Fn P w K mg base 1 "_law_take" ["_law_box_here", "_law_many"] spTake) : Fn P w K mg base 2 "_law_weight" ["_law_box_here"] (sp_law_weight K) := by
  refine D.ok0 sc_law_weight (fun vs H Q E h => ?_) (fun f cdv A outer s H vs Q E hr h => ?_)
  · obtain ⟨bx, n_bx, rfl, _⟩ := h
    rfl
  obtain ⟨bx, n_bx, rfl, hb_bx, k0⟩ := h
  refine ⟨_, (pss_cons (ps_if (pt_cmpR op_eq (pe_fn F_law_take (by decide) hr (by rfl) passE0 (pa_cons (pv 0) (pa_cons pe_int pa_nil))) pe_int (nomark _)) (pss_one (ps_ret (pe_op op_add pe_int (pe_fn F_law_take (by decide) hr (by rfl) passE0 (pa_cons (pv 0) (pa_cons pe_int pa_nil)))))) pss_nil)
      (pss_one (ps_ret (pe_op op_add pe_int (pe_fn F_law_take (by decide) hr (by rfl) passE0 (pa_cons (pv 0) (pa_cons pe_int pa_nil))))))), ?_⟩
  refine ⟨_, rfl, _, _, _, rfl, hb_bx, (by decide +kernel), ((Bd.small (i := (4 : Int)) (by decide) (by decide)).mono (by decide)), fun d36 n36 H36 lo36 hi36 s36 hb36 => ?_⟩
  refine ⟨rfl, _, rfl, ?_⟩
  refine if_decI (fun c37 => ?_) (fun c37 => ?_)
  · skip
    refine ⟨_, rfl, _, _, _, rfl, hb36, (by decide +kernel), ((Bd.small (i := (1000 : Int)) (by decide) (by decide)).mono (by decide)), fun d38 n38 H38 lo38 hi38 s38 hb38 => ?_⟩
    exact ⟨_, _, rfl, rfl, k0 _ _ _ (s36.trans s38) hb38 (by omega) (by omega)⟩
  · skip
    refine ⟨_, rfl, _, _, _, rfl, hb36, (by decide +kernel), ((Bd.small (i := (5 : Int)) (by decide) (by decide)).mono (by decide)), fun d39 n39 H39 lo39 hi39 s39 hb39 => ?_⟩
    exact ⟨_, _, rfl, rfl, k0 _ _ _ (s36.trans s39) hb39 (by omega) (by omega)⟩
def sp_law_two (K : PySem.W.Frag) : Sp := fun vs H Q _ => ∃ (bx : Addr) (n_bx : Int), vs = [.ref bx] ∧ H bx = some (.lst [.int n_bx]) ∧ (∀ (p_t : Addr) (p_o1 : Addr) (p_x1 : Addr) (x1 : Rat) (p_v1 : Addr) (v1 : Rat) (m1 : Int) (p_o2 : Addr) (p_x2 : Addr) (x2 : Rat) (p_v2 : Addr) (v2 : Rat) (m2 : Int) (H1 : Hp) (n1 : Int), But bx H H1 → H1 bx = some (.lst [.int n1]) → SqT K H1 p_t [.ref p_o1, .ref p_o2] → SqT K H1 p_o1 [.ref p_x1, .ref p_v1, .int m1] → FQ K H1 p_x1 (x1) → FB 140 x1 → FQ K H1 p_v1 (v1) → FB 70 v1 → 1 ≤ m1 → m1 ≤ 1000 → SqT K H1 p_o2 [.ref p_x2, .ref p_v2, .int m2] → FQ K H1 p_x2 (x2) → FB 140 x2 → x1 < x2 → FQ K H1 p_v2 (v2) → FB 70 v2 → 1 ≤ m2 → m2 ≤ 1000 → Q (.ref p_t) H1)
theorem sc_law_two : FnScope ["_law_box_here", "_law_place", "_law_step", "_law_one", "_law_other"] ["_law_box_here"] (defScope (top 34)) := ⟨rfl, rfl, rfl, by decide +kernel, rfl, by decide +kernel, by decide +kernel⟩
theorem ok_law_two (D : Df K mg "_law_two" (top 34) ["_law_box_here"]) (T : Tx K mg) (F_law_drawn : Fn P w K mg base 2 "_law_drawn" ["_law_box_here"] (sp_law_drawn K)) (F_law_take : Fn P w K mg base 1 "_law_take" ["_law_box_here", "_law_many"] spTake) (F_law_fit : Fn P w K mg base 1 "_law_fit" ["_law_top", "_law_bottom"] (sp_law_fit K)) (F_law_weight : Fn P w K mg base 2 "_law_weight" ["_law_box_here"] (sp_law_weight K)) (F_law_plus : Fn P w K mg base 2 "_law_plus" ["_law_one", "_law_other"] (sp_law_plus K)) : Fn P w K mg base 3 "_law_two" ["_law_box_here"] (sp_law_two K) := by
  refine D.ok0 sc_law_two (fun vs H Q E h => ?_) (fun f cdv A outer s H vs Q E hr h => ?_)
  · obtain ⟨bx, n_bx, rfl, _⟩ := h
    rfl
  obtain ⟨bx, n_bx, rfl, hb_bx, k0⟩ := h
  refine ⟨_, (pss_cons (ps_set (i := 1) sc_law_two.nd rfl (Or.inl rfl) (pe_fn F_law_drawn (by decide) hr (by rfl) passE0 (pa_cons (pv 0) pa_nil)))
      (pss_cons (ps_set (i := 2) sc_law_two.nd rfl (Or.inl rfl) (pe_fn F_law_fit (by decide) hr (by rfl) passE0 (pa_cons (pe_op op_add pe_int (pe_fn F_law_take (by decide) hr (by rfl) passE0 (pa_cons (pv 0) (pa_cons (pe_ix ix_list (pe_lst (pa_cons pe_int (pa_cons pe_int (pa_cons (pe_op op_pow pe_int pe_int) pa_nil)))) (pe_fn F_law_take (by decide) hr (by rfl) passE0 (pa_cons (pv 0) (pa_cons pe_int pa_nil))) (fun _ _ => rfl)) pa_nil)))) (pa_cons (pe_op op_add pe_int (pe_fn F_law_take (by decide) hr (by rfl) passE0 (pa_cons (pv 0) (pa_cons pe_int pa_nil)))) pa_nil))))
      (pss_cons (ps_set (i := 3) sc_law_two.nd rfl (Or.inl rfl) (pe_tup (pa_cons (pv 1) (pa_cons (pe_fn F_law_drawn (by decide) hr (by rfl) passE0 (pa_cons (pv 0) pa_nil)) (pa_cons (pe_fn F_law_weight (by decide) hr (by rfl) passE0 (pa_cons (pv 0) pa_nil)) pa_nil)))))
      (pss_cons (ps_set (i := 4) sc_law_two.nd rfl (Or.inl rfl) (pe_tup (pa_cons (pe_fn F_law_plus (by decide) hr (by rfl) passE0 (pa_cons (pv 1) (pa_cons (pv 2) pa_nil))) (pa_cons (pe_fn F_law_drawn (by decide) hr (by rfl) passE0 (pa_cons (pv 0) pa_nil)) (pa_cons (pe_fn F_law_weight (by decide) hr (by rfl) passE0 (pa_cons (pv 0) pa_nil)) pa_nil)))))
      (pss_cons (ps_if (pt_cmpR op_eq (pe_fn F_law_take (by decide) hr (by rfl) passE0 (pa_cons (pv 0) (pa_cons pe_int pa_nil))) pe_int (nomark _)) (pss_one (ps_set (i := 4) sc_law_two.nd rfl (Or.inl rfl) (pe_tup (pa_cons (pe_ix ix_tup (pv 4) pe_int (fun _ _ => rfl)) (pa_cons (pe_ix ix_tup (pv 3) pe_int (fun _ _ => rfl)) (pa_cons (pe_ix ix_tup (pv 4) pe_int (fun _ _ => rfl)) pa_nil)))))) pss_nil)
      (pss_one (ps_ret (pe_tup (pa_cons (pv 3) (pa_cons (pv 4) pa_nil)))))))))), ?_⟩
  refine ⟨_, rfl, _, _, rfl, hb_bx, fun p_r40 r40 H40 n40 s40 hb40 g_r40 d_r40 => ?_⟩
  refine ⟨_, rfl, _, _, rfl, rfl, ⟨by decide, by decide, by decide⟩, by show 3 ≤ sizeLine; decide, ?_⟩
  intro p41 n41
  obtain ⟨H41, q41, s41, e41⟩ := newO n41 (.lst [.int ((9 : Int)), .int ((9 : Int)), .int ((((10 : Int)) ^ (Int.toNat (9 : Int))))])
  rw [q41]
  clear q41
  have hB42 := s41 _ _ hb40
  have h41 := SqL.of (K := K) e41
  have ap41 : p41 ≠ bx := fun z => by rw [z, hb40] at n41; cases n41
  refine ⟨_, rfl, _, _, _, rfl, hB42, (by decide +kernel), ((Bd.small (i := (3 : Int)) (by decide) (by decide)).mono (by decide)), fun d43 n43 H43 lo43 hi43 s43 hb43 => ?_⟩
  obtain ⟨v44, ev44, m45⟩ := atI_mem ([(9 : Int), (9 : Int), (((10 : Int)) ^ (Int.toNat (9 : Int)))] : List Int) d43 (by omega) (by show _ < (3 : Int); omega)
  have bv44 : 9 ≤ v44 ∧ v44 ≤ 1000000000 := (show ∀ z ∈ ([(9 : Int), (9 : Int), (((10 : Int)) ^ (Int.toNat (9 : Int)))] : List Int), 9 ≤ z ∧ z ≤ 1000000000 by decide +kernel) v44 m45
  replace h41 := (But.seq s43 ap41 h41)
  refine ⟨p41, _, _, _, rfl, rfl, h41, ev44, _, _, _, rfl, hb43, (by omega), ((Bd.small (i := v44) (by omega) (by omega)).mono (by decide)), fun d46 n46 H46 lo46 hi46 s46 hb46 => ?_⟩
  refine ⟨_, _, rfl, rfl, _, rfl, _, _, _, rfl, hb46, (by decide +kernel), ((Bd.small (i := (4 : Int)) (by decide) (by decide)).mono (by decide)), fun d47 n47 H47 lo47 hi47 s47 hb47 => ?_⟩
  refine ⟨_, _, rfl, rfl, _, _, rfl, ((Bd.add ((Bd.small (i := (1 : Int)) (by decide) (by decide)).mono (n := 64) (by decide)) ((Bd.small (i := d47) (by omega) (by omega)).mono (n := 64) (by decide))).mono (by decide)), (by omega), fun p_r48 H48 s48 g_r48 => ?_⟩
  have hB49 := s48 _ _ hb47
  have d_r48 : FB 65 (Rat.divInt (((1 : Int) + d46)) (((1 : Int) + d47))) := (FB.mono (FB.fit (by omega) ((Bd.add ((Bd.small (i := (1 : Int)) (by decide) (by decide)).mono (n := 64) (by decide)) ((Bd.small (i := d46) (by omega) (by omega)).mono (n := 64) (by decide))).mono (n := 65) (by decide)) ((Bd.add ((Bd.small (i := (1 : Int)) (by decide) (by decide)).mono (n := 64) (by decide)) ((Bd.small (i := d47) (by omega) (by omega)).mono (n := 64) (by decide))).mono (n := 65) (by decide))) (by decide))
  have pos : (0 : Rat) < (Rat.divInt (((1 : Int) + d46)) (((1 : Int) + d47))) := q_divpos (by omega) (by omega)
  refine ⟨_, rfl, _, rfl, _, _, rfl, hB49, fun p_r50 r50 H50 n50 s50 hb50 g_r50 d_r50 => ?_⟩
  refine ⟨_, rfl, _, _, rfl, hb50, fun r51 H51 n51 s51 hb51 t0_r51 t1_r51 => ?_⟩
  refine ⟨by show 3 ≤ sizeLine; decide, ?_⟩
  intro p52 n52
  obtain ⟨H52, q52, s52, e52⟩ := newO n52 (.tup [.ref p_r40, .ref p_r50, .int (r51)])
  rw [q52]
  clear q52
  have hB53 := s52 _ _ hb51
  have h52 := SqT.of (K := K) e52
  replace g_r40 := (Kw.Same.tup s52 (But.tup s51 hb50 (But.tup s50 hB49 (Kw.Same.tup s48 (But.tup s47 hb46 (But.tup s46 hb43 (But.tup s43 hB42 (Kw.Same.tup s41 g_r40))))))))
  replace g_r48 := (Kw.Same.tup s52 (But.tup s51 hb50 (But.tup s50 hB49 g_r48)))
  refine ⟨_, rfl, _, rfl, _, _, _, _, rfl, g_r40, (FB.mono d_r40 (by decide)), g_r48, (FB.mono d_r48 (by decide)), fun p_r54 H54 s54 g_r54 => ?_⟩
  have hB55 := s54 _ _ hB53
  have d_r54 : FB 136 (r40 + ((Rat.divInt (((1 : Int) + d46)) (((1 : Int) + d47))))) := (FB.mono (FB.add d_r40 d_r48) (by decide))
  refine ⟨_, rfl, _, _, rfl, hB55, fun p_r56 r56 H56 n56 s56 hb56 g_r56 d_r56 => ?_⟩
  refine ⟨_, rfl, _, _, rfl, hb56, fun r57 H57 n57 s57 hb57 t0_r57 t1_r57 => ?_⟩
  refine ⟨by show 3 ≤ sizeLine; decide, ?_⟩
  intro p58 n58
  obtain ⟨H58, q58, s58, e58⟩ := newO n58 (.tup [.ref p_r54, .ref p_r56, .int (r57)])
  rw [q58]
  clear q58
  have hB59 := s58 _ _ hb57
  have h58 := SqT.of (K := K) e58
  refine ⟨_, rfl, _, _, _, rfl, hB59, (by decide +kernel), ((Bd.small (i := (6 : Int)) (by decide) (by decide)).mono (by decide)), fun d60 n60 H60 lo60 hi60 s60 hb60 => ?_⟩
  refine ⟨rfl, _, rfl, ?_⟩
  refine if_decI (fun c61 => ?_) (fun c61 => ?_)
  · skip
    replace h58 := (But.tup s60 hB59 h58)
    replace h52 := (But.tup s60 hB59 (Kw.Same.tup s58 (But.tup s57 hb56 (But.tup s56 hB55 (Kw.Same.tup s54 h52)))))
    refine ⟨_, rfl, p58, _, _, _, rfl, rfl, h58, rfl, _, rfl, p52, _, _, _, rfl, rfl, h52, rfl, _, rfl, p58, _, _, _, rfl, rfl, h58, rfl, by show 3 ≤ sizeLine; decide, ?_⟩
    intro p62 n62
    obtain ⟨H62, q62, s62, e62⟩ := newO n62 (.tup [.ref p_r54, .ref p_r50, .int (r57)])
    rw [q62]
    clear q62
    have hB63 := s62 _ _ hb60
    have h62 := SqT.of (K := K) e62
    refine ⟨_, rfl, _, rfl, by show 2 ≤ sizeLine; decide, ?_⟩
    intro p64 n64
    obtain ⟨H64, q64, s64, e64⟩ := newO n64 (.tup [.ref p52, .ref p62])
    rw [q64]
    clear q64
    have hB65 := s64 _ _ hB63
    have h64 := SqT.of (K := K) e64
    replace h52 := (Kw.Same.tup s64 (Kw.Same.tup s62 h52))
    replace g_r40 := (Kw.Same.tup s64 (Kw.Same.tup s62 (But.tup s60 hB59 (Kw.Same.tup s58 (But.tup s57 hb56 (But.tup s56 hB55 (Kw.Same.tup s54 g_r40)))))))
    replace g_r50 := (Kw.Same.tup s64 (Kw.Same.tup s62 (But.tup s60 hB59 (Kw.Same.tup s58 (But.tup s57 hb56 (But.tup s56 hB55 (Kw.Same.tup s54 (Kw.Same.tup s52 (But.tup s51 hb50 g_r50)))))))))
    replace h62 := (Kw.Same.tup s64 h62)
    replace g_r54 := (Kw.Same.tup s64 (Kw.Same.tup s62 (But.tup s60 hB59 (Kw.Same.tup s58 (But.tup s57 hb56 (But.tup s56 hB55 g_r54))))))
    exact k0 _ _ _ _ _ _ _ _ _ _ _ _ _ _ _ (s40.trans ((But.of s41).trans (s43.trans (s46.trans (s47.trans ((But.of s48).trans (s50.trans (s51.trans ((But.of s52).trans ((But.of s54).trans (s56.trans (s57.trans ((But.of s58).trans (s60.trans ((But.of s62).trans (But.of s64)))))))))))))))) hB65 h64 h52 g_r40 (FB.mono d_r40 (by decide)) g_r50 (FB.mono d_r50 (by decide)) (by omega) (by omega) h62 g_r54 (FB.mono d_r54 (by decide)) (by grind) g_r50 (FB.mono d_r50 (by decide)) (by omega) (by omega)
  · skip
    refine ⟨_, rfl, _, rfl, by show 2 ≤ sizeLine; decide, ?_⟩
    intro p66 n66
    obtain ⟨H66, q66, s66, e66⟩ := newO n66 (.tup [.ref p52, .ref p58])
    rw [q66]
    clear q66
    have hB67 := s66 _ _ hb60
    have h66 := SqT.of (K := K) e66
    replace h52 := (Kw.Same.tup s66 (But.tup s60 hB59 (Kw.Same.tup s58 (But.tup s57 hb56 (But.tup s56 hB55 (Kw.Same.tup s54 h52))))))
    replace g_r40 := (Kw.Same.tup s66 (But.tup s60 hB59 (Kw.Same.tup s58 (But.tup s57 hb56 (But.tup s56 hB55 (Kw.Same.tup s54 g_r40))))))
    replace g_r50 := (Kw.Same.tup s66 (But.tup s60 hB59 (Kw.Same.tup s58 (But.tup s57 hb56 (But.tup s56 hB55 (Kw.Same.tup s54 (Kw.Same.tup s52 (But.tup s51 hb50 g_r50))))))))
    replace h58 := (Kw.Same.tup s66 (But.tup s60 hB59 h58))
    replace g_r54 := (Kw.Same.tup s66 (But.tup s60 hB59 (Kw.Same.tup s58 (But.tup s57 hb56 (But.tup s56 hB55 g_r54)))))
    replace g_r56 := (Kw.Same.tup s66 (But.tup s60 hB59 (Kw.Same.tup s58 (But.tup s57 hb56 g_r56))))
    exact k0 _ _ _ _ _ _ _ _ _ _ _ _ _ _ _ (s40.trans ((But.of s41).trans (s43.trans (s46.trans (s47.trans ((But.of s48).trans (s50.trans (s51.trans ((But.of s52).trans ((But.of s54).trans (s56.trans (s57.trans ((But.of s58).trans (s60.trans (But.of s66))))))))))))))) hB67 h66 h52 g_r40 (FB.mono d_r40 (by decide)) g_r50 (FB.mono d_r50 (by decide)) (by omega) (by omega) h58 g_r54 (FB.mono d_r54 (by decide)) (by grind) g_r56 (FB.mono d_r56 (by decide)) (by omega) (by omega)
def sp_law_with (K : PySem.W.Frag) : Sp := fun vs H Q _ => ∃ (p_i a_i b_i : Addr) (x_i v_i : Rat) (m_i : Int) (p_s : Addr) (s : Rat), vs = [.ref p_i, .ref p_s] ∧ SqT K H p_i [.ref a_i, .ref b_i, .int m_i] ∧ FQ K H a_i x_i ∧ FQ K H b_i v_i ∧ FB 900 x_i ∧ FB 900 v_i ∧ 1 ≤ m_i ∧ m_i ≤ 10000 ∧ FQ K H p_s s ∧ FB 900 s ∧ (∀ (p_r : Addr) (p_x : Addr) (p_v : Addr) (H1 : Hp), Same H H1 → SqT K H1 p_r [.ref p_x, .ref p_v, .int (m_i)] → FQ K H1 p_x (x_i) → FQ K H1 p_v (s) → Q (.ref p_r) H1)
theorem sc_law_with : FnScope ["_law_one", "_law_speed"] ["_law_one", "_law_speed"] (defScope (top 35)) := ⟨rfl, rfl, rfl, by decide +kernel, rfl, by decide +kernel, by decide +kernel⟩
theorem ok_law_with (D : Df K mg "_law_with" (top 35) ["_law_one", "_law_speed"]) (T : Tx K mg) : Fn P w K mg base 1 "_law_with" ["_law_one", "_law_speed"] (sp_law_with K) := by
  refine D.ok0 sc_law_with (fun vs H Q E h => ?_) (fun f cdv A outer s H vs Q E hr h => ?_)
  · obtain ⟨p_i, a_i, b_i, x_i, v_i, m_i, p_s, s, rfl, _⟩ := h
    rfl
  obtain ⟨p_i, a_i, b_i, x_i, v_i, m_i, p_s, s, rfl, h_i, gx_i, gv_i, dx_i, dv_i, lo_i, hi_i, g_s, d_s, k0⟩ := h
  refine ⟨_, (pss_one (ps_ret (pe_tup (pa_cons (pe_ix ix_tup (pv 0) pe_int (fun _ _ => rfl)) (pa_cons (pv 1) (pa_cons (pe_ix ix_tup (pv 0) pe_int (fun _ _ => rfl)) pa_nil)))))), ?_⟩
  refine ⟨_, rfl, p_i, _, _, _, rfl, rfl, h_i, rfl, _, rfl, _, rfl, p_i, _, _, _, rfl, rfl, h_i, rfl, by show 3 ≤ sizeLine; decide, ?_⟩
  intro p68 n68
  obtain ⟨H68, q68, s68, e68⟩ := newO n68 (.tup [.ref a_i, .ref p_s, .int (m_i)])
  rw [q68]
  clear q68
  have h68 := SqT.of (K := K) e68
  replace gx_i := (Kw.Same.tup s68 gx_i)
  replace g_s := (Kw.Same.tup s68 g_s)
  exact k0 _ _ _ _ s68 h68 gx_i g_s
def sp_law_about (K : PySem.W.Frag) : Sp := fun vs H Q _ => ∃ (p_s : Addr) (s : Rat), vs = [.ref p_s] ∧ FQ K H p_s s ∧ FB 900 s ∧ (∀ (p_r : Addr) (H1 : Hp), Same H H1 → FQ K H1 p_r (-s) → Q (.ref p_r) H1)
theorem sc_law_about : FnScope ["_law_speed"] ["_law_speed"] (defScope (top 36)) := ⟨rfl, rfl, rfl, by decide +kernel, rfl, by decide +kernel, by decide +kernel⟩
theorem ok_law_about (D : Df K mg "_law_about" (top 36) ["_law_speed"]) (T : Tx K mg) : Fn P w K mg base 1 "_law_about" ["_law_speed"] (sp_law_about K) := by
  refine D.ok0 sc_law_about (fun vs H Q E h => ?_) (fun f cdv A outer s H vs Q E hr h => ?_)
  · obtain ⟨p_s, s, rfl, _⟩ := h
    rfl
  obtain ⟨p_s, s, rfl, g_s, d_s, k0⟩ := h
  refine ⟨_, (pss_one (ps_ret (pe_tup (pa_cons (pe_op op_sub pe_int (pe_ix ix_tup (pv 0) pe_int (fun _ _ => rfl))) (pa_cons (pe_ix ix_tup (pv 0) pe_int (fun _ _ => rfl)) pa_nil))))), ?_⟩
  refine ⟨_, rfl, p_s, _, _, _, rfl, rfl, g_s, rfl, _, _, rfl, rfl, _, rfl, p_s, _, _, _, rfl, rfl, g_s, rfl, by show 2 ≤ sizeLine; decide, ?_⟩
  intro p69 n69
  obtain ⟨H69, q69, s69, e69⟩ := newO n69 (.tup [.int (((0 : Int) - (s).num)), .int ((((s).den : Nat) : Int))])
  rw [q69]
  clear q69
  have h69 := SqT.of (K := K) e69
  have g69 : FQ K H69 p69 (-(s)) := by exact FQ.ofNeg h69 (by omega)
  exact k0 _ _ s69 g69
def sp_law_greater_right (K : PySem.W.Frag) : Sp := fun vs H Q _ => ∃ (p_i a_i b_i : Addr) (x_i v_i : Rat) (m_i : Int) (p_j a_j b_j : Addr) (x_j v_j : Rat) (m_j : Int) (t : Int), vs = [.ref p_i, .ref p_j, .int t] ∧ SqT K H p_i [.ref a_i, .ref b_i, .int m_i] ∧ FQ K H a_i x_i ∧ FQ K H b_i v_i ∧ FB 140 x_i ∧ FB 140 v_i ∧ 1 ≤ m_i ∧ m_i ≤ 10000 ∧ SqT K H p_j [.ref a_j, .ref b_j, .int m_j] ∧ FQ K H a_j x_j ∧ FQ K H b_j v_j ∧ FB 140 x_j ∧ FB 140 v_j ∧ 1 ≤ m_j ∧ m_j ≤ 10000 ∧ 1 ≤ t ∧ t ≤ 10000 ∧ (∀  (H1 : Hp), Same H H1 → Q (.bl true) H1)
theorem sc_law_greater_right : FnScope ["_law_one", "_law_other", "_law_times_here", "_law_first", "_law_second", "_law_due", "_law_here", "_law_there", "_law_more"] ["_law_one", "_law_other", "_law_times_here"] (defScope (top 37)) := ⟨rfl, rfl, rfl, by decide +kernel, rfl, by decide +kernel, by decide +kernel⟩
theorem ok_law_greater_right (D : Df K mg "_law_greater_right" (top 37) ["_law_one", "_law_other", "_law_times_here"]) (T : Tx K mg) (F_speeds_after : Fn P w K mg base 5 "speeds_after" ["one", "other"] (sp_speeds_after K)) (F_law_times : Fn P w K mg base 2 "_law_times" ["_law_one", "_law_other"] (sp_law_times K)) (F_law_with : Fn P w K mg base 1 "_law_with" ["_law_one", "_law_speed"] (sp_law_with K)) : Fn P w K mg base 6 "_law_greater_right" ["_law_one", "_law_other", "_law_times_here"] (sp_law_greater_right K) := by
  refine D.ok0 sc_law_greater_right (fun vs H Q E h => ?_) (fun f cdv A outer s H vs Q E hr h => ?_)
  · obtain ⟨p_i, a_i, b_i, x_i, v_i, m_i, p_j, a_j, b_j, x_j, v_j, m_j, t, rfl, _⟩ := h
    rfl
  obtain ⟨p_i, a_i, b_i, x_i, v_i, m_i, p_j, a_j, b_j, x_j, v_j, m_j, t, rfl, h_i, gx_i, gv_i, dx_i, dv_i, lo_i, hi_i, h_j, gx_j, gv_j, dx_j, dv_j, lo_j, hi_j, lo_t, hi_t, k0⟩ := h
  refine ⟨_, (pss_cons (ps_asg (pe_fn F_speeds_after (by decide) hr (by rfl) passE0 (pa_cons (pv 0) (pa_cons (pv 1) pa_nil))) (pg_tup rfl (pgs_cons (pg_name (i := 3) sc_law_greater_right.nd rfl (Or.inl rfl)) (pgs_cons (pg_name (i := 4) sc_law_greater_right.nd rfl (Or.inl rfl)) pgs_nil))))
      (pss_cons (ps_set (i := 5) sc_law_greater_right.nd rfl (Or.inl rfl) (pe_tup (pa_cons (pe_fn F_law_times (by decide) hr (by rfl) passE0 (pa_cons (pv 3) (pa_cons (pe_tup (pa_cons (pv 2) (pa_cons pe_int pa_nil))) pa_nil))) (pa_cons (pe_fn F_law_times (by decide) hr (by rfl) passE0 (pa_cons (pv 4) (pa_cons (pe_tup (pa_cons (pv 2) (pa_cons pe_int pa_nil))) pa_nil))) pa_nil))))
      (pss_cons (ps_set (i := 6) sc_law_greater_right.nd rfl (Or.inl rfl) (pe_fn F_law_with (by decide) hr (by rfl) passE0 (pa_cons (pv 0) (pa_cons (pe_fn F_law_times (by decide) hr (by rfl) passE0 (pa_cons (pe_ix ix_tup (pv 0) pe_int (fun _ _ => rfl)) (pa_cons (pe_tup (pa_cons (pv 2) (pa_cons pe_int pa_nil))) pa_nil))) pa_nil))))
      (pss_cons (ps_set (i := 7) sc_law_greater_right.nd rfl (Or.inl rfl) (pe_fn F_law_with (by decide) hr (by rfl) passE0 (pa_cons (pv 1) (pa_cons (pe_fn F_law_times (by decide) hr (by rfl) passE0 (pa_cons (pe_ix ix_tup (pv 1) pe_int (fun _ _ => rfl)) (pa_cons (pe_tup (pa_cons (pv 2) (pa_cons pe_int pa_nil))) pa_nil))) pa_nil))))
      (pss_cons (ps_if (pt_cmpR (op_neA (K := K) rfl (u100 hr)) (pe_fn F_speeds_after (by decide) hr (by rfl) passE0 (pa_cons (pv 6) (pa_cons (pv 7) pa_nil))) (pv 5) (nomark _)) (pss_one (ps_ret pe_bl)) pss_nil)
      (pss_cons (ps_set (i := 6) sc_law_greater_right.nd rfl (Or.inl rfl) (pe_tup (pa_cons (pe_ix ix_tup (pv 0) pe_int (fun _ _ => rfl)) (pa_cons (pe_ix ix_tup (pv 0) pe_int (fun _ _ => rfl)) (pa_cons (pe_op op_add pe_int (pe_op op_fdivB (pe_ix ix_tup (pv 0) pe_int (fun _ _ => rfl)) pe_int)) pa_nil)))))
      (pss_cons (ps_set (i := 7) sc_law_greater_right.nd rfl (Or.inl rfl) (pe_tup (pa_cons (pe_ix ix_tup (pv 1) pe_int (fun _ _ => rfl)) (pa_cons (pe_ix ix_tup (pv 1) pe_int (fun _ _ => rfl)) (pa_cons (pe_op op_add pe_int (pe_op op_fdivB (pe_ix ix_tup (pv 1) pe_int (fun _ _ => rfl)) pe_int)) pa_nil)))))
      (pss_cons (ps_set (i := 8) sc_law_greater_right.nd rfl (Or.inl rfl) (pe_tup (pa_cons (pe_tup (pa_cons (pe_ix ix_tup (pv 0) pe_int (fun _ _ => rfl)) (pa_cons (pe_ix ix_tup (pv 0) pe_int (fun _ _ => rfl)) (pa_cons (pe_op op_mulB (pe_ix ix_tup (pv 6) pe_int (fun _ _ => rfl)) pe_int) pa_nil)))) (pa_cons (pe_tup (pa_cons (pe_ix ix_tup (pv 1) pe_int (fun _ _ => rfl)) (pa_cons (pe_ix ix_tup (pv 1) pe_int (fun _ _ => rfl)) (pa_cons (pe_op op_mulB (pe_ix ix_tup (pv 7) pe_int (fun _ _ => rfl)) pe_int) pa_nil)))) pa_nil))))
      (pss_one (ps_ret (pe_cmpR (op_eqA (K := K) rfl (u100 hr)) (pe_fn F_speeds_after (by decide) hr (by rfl) passE0 (pa_cons (pv 6) (pa_cons (pv 7) pa_nil))) (pe_fn F_speeds_after (by decide) hr (by rfl) passE0 (pa_cons (pe_ix ix_tup (pv 8) pe_int (fun _ _ => rfl)) (pa_cons (pe_ix ix_tup (pv 8) pe_int (fun _ _ => rfl)) pa_nil))) (nomark _)))))))))))), ?_⟩
  refine ⟨_, rfl, _, rfl, _, _, _, _, _, _, _, _, _, _, _, _, rfl, h_i, gx_i, gv_i, (FB.mono dx_i (by decide)), (FB.mono dv_i (by decide)), (by omega), (by omega), h_j, gx_j, gv_j, (FB.mono dx_j (by decide)), (FB.mono dv_j (by decide)), (by omega), (by omega), fun p_r70 p_l70 p_g70 H70 s70 h_r70 g_l70 g_g70 => ?_⟩
  have d_l70 : FB 409 (mixQ v_i v_j m_i m_j) := (FB.mono (FB.mix dv_i dv_j (by omega) (by omega) (by omega) (by omega)) (by decide))
  have d_g70 : FB 409 (mixQ v_j v_i m_j m_i) := (FB.mono (FB.mix dv_j dv_i (by omega) (by omega) (by omega) (by omega)) (by decide))
  refine ⟨p_r70, _, rfl, h_r70, rfl, _, _, rfl, _, _, rfl, rfl, ?_⟩
  refine ⟨_, rfl, _, rfl, by show 2 ≤ sizeLine; decide, ?_⟩
  intro p71 n71
  obtain ⟨H71, q71, s71, e71⟩ := newO n71 (.tup [.int (t), .int ((1 : Int))])
  rw [q71]
  clear q71
  have h71 := SqT.of (K := K) e71
  have g71 : FQ K H71 p71 (((t : Int) : Rat)) := by exact FQ.ofInt h71
  replace g_l70 := (Kw.Same.tup s71 g_l70)
  refine ⟨_, _, _, _, rfl, g_l70, (FB.mono d_l70 (by decide)), g71, (FB.mono (FB.ofInt (Bd.small (i := t) (by omega) (by omega)) (by decide)) (by decide)), fun p_r72 H72 s72 g_r72 => ?_⟩
  have d_r72 : FB 473 (((mixQ v_i v_j m_i m_j)) * ((((t : Int) : Rat)))) := (FB.mono (FB.mul d_l70 (FB.ofInt (Bd.small (i := t) (by omega) (by omega)) (by decide))) (by decide))
  refine ⟨_, rfl, _, rfl, by show 2 ≤ sizeLine; decide, ?_⟩
  intro p73 n73
  obtain ⟨H73, q73, s73, e73⟩ := newO n73 (.tup [.int (t), .int ((1 : Int))])
  rw [q73]
  clear q73
  have h73 := SqT.of (K := K) e73
  have g73 : FQ K H73 p73 (((t : Int) : Rat)) := by exact FQ.ofInt h73
  replace g_g70 := (Kw.Same.tup s73 (Kw.Same.tup s72 (Kw.Same.tup s71 g_g70)))
  refine ⟨_, _, _, _, rfl, g_g70, (FB.mono d_g70 (by decide)), g73, (FB.mono (FB.ofInt (Bd.small (i := t) (by omega) (by omega)) (by decide)) (by decide)), fun p_r74 H74 s74 g_r74 => ?_⟩
  have d_r74 : FB 473 (((mixQ v_j v_i m_j m_i)) * ((((t : Int) : Rat)))) := (FB.mono (FB.mul d_g70 (FB.ofInt (Bd.small (i := t) (by omega) (by omega)) (by decide))) (by decide))
  refine ⟨by show 2 ≤ sizeLine; decide, ?_⟩
  intro p75 n75
  obtain ⟨H75, q75, s75, e75⟩ := newO n75 (.tup [.ref p_r72, .ref p_r74])
  rw [q75]
  clear q75
  have h75 := SqT.of (K := K) e75
  replace h_i := (Kw.Same.tup s75 (Kw.Same.tup s74 (Kw.Same.tup s73 (Kw.Same.tup s72 (Kw.Same.tup s71 (Kw.Same.tup s70 h_i))))))
  refine ⟨_, rfl, _, rfl, p_i, _, _, _, rfl, rfl, h_i, rfl, _, rfl, by show 2 ≤ sizeLine; decide, ?_⟩
  intro p76 n76
  obtain ⟨H76, q76, s76, e76⟩ := newO n76 (.tup [.int (t), .int ((1 : Int))])
  rw [q76]
  clear q76
  have h76 := SqT.of (K := K) e76
  have g76 : FQ K H76 p76 (((t : Int) : Rat)) := by exact FQ.ofInt h76
  replace gv_i := (Kw.Same.tup s76 (Kw.Same.tup s75 (Kw.Same.tup s74 (Kw.Same.tup s73 (Kw.Same.tup s72 (Kw.Same.tup s71 (Kw.Same.tup s70 gv_i)))))))
  refine ⟨_, _, _, _, rfl, gv_i, (FB.mono dv_i (by decide)), g76, (FB.mono (FB.ofInt (Bd.small (i := t) (by omega) (by omega)) (by decide)) (by decide)), fun p_r77 H77 s77 g_r77 => ?_⟩
  have d_r77 : FB 204 (v_i * ((((t : Int) : Rat)))) := (FB.mono (FB.mul dv_i (FB.ofInt (Bd.small (i := t) (by omega) (by omega)) (by decide))) (by decide))
  replace h_i := (Kw.Same.tup s77 (Kw.Same.tup s76 h_i))
  replace gx_i := (Kw.Same.tup s77 (Kw.Same.tup s76 (Kw.Same.tup s75 (Kw.Same.tup s74 (Kw.Same.tup s73 (Kw.Same.tup s72 (Kw.Same.tup s71 (Kw.Same.tup s70 gx_i))))))))
  replace gv_i := (Kw.Same.tup s77 gv_i)
  refine ⟨_, _, _, _, _, _, _, _, rfl, h_i, gx_i, gv_i, (FB.mono dx_i (by decide)), (FB.mono dv_i (by decide)), (by omega), (by omega), g_r77, (FB.mono d_r77 (by decide)), fun p_r78 p_x78 p_v78 H78 s78 h_r78 g_x78 g_v78 => ?_⟩
  replace h_j := (Kw.Same.tup s78 (Kw.Same.tup s77 (Kw.Same.tup s76 (Kw.Same.tup s75 (Kw.Same.tup s74 (Kw.Same.tup s73 (Kw.Same.tup s72 (Kw.Same.tup s71 (Kw.Same.tup s70 h_j)))))))))
  refine ⟨_, rfl, _, rfl, p_j, _, _, _, rfl, rfl, h_j, rfl, _, rfl, by show 2 ≤ sizeLine; decide, ?_⟩
  intro p79 n79
  obtain ⟨H79, q79, s79, e79⟩ := newO n79 (.tup [.int (t), .int ((1 : Int))])
  rw [q79]
  clear q79
  have h79 := SqT.of (K := K) e79
  have g79 : FQ K H79 p79 (((t : Int) : Rat)) := by exact FQ.ofInt h79
  replace gv_j := (Kw.Same.tup s79 (Kw.Same.tup s78 (Kw.Same.tup s77 (Kw.Same.tup s76 (Kw.Same.tup s75 (Kw.Same.tup s74 (Kw.Same.tup s73 (Kw.Same.tup s72 (Kw.Same.tup s71 (Kw.Same.tup s70 gv_j))))))))))
  refine ⟨_, _, _, _, rfl, gv_j, (FB.mono dv_j (by decide)), g79, (FB.mono (FB.ofInt (Bd.small (i := t) (by omega) (by omega)) (by decide)) (by decide)), fun p_r80 H80 s80 g_r80 => ?_⟩
  have d_r80 : FB 204 (v_j * ((((t : Int) : Rat)))) := (FB.mono (FB.mul dv_j (FB.ofInt (Bd.small (i := t) (by omega) (by omega)) (by decide))) (by decide))
  replace h_j := (Kw.Same.tup s80 (Kw.Same.tup s79 h_j))
  replace gx_j := (Kw.Same.tup s80 (Kw.Same.tup s79 (Kw.Same.tup s78 (Kw.Same.tup s77 (Kw.Same.tup s76 (Kw.Same.tup s75 (Kw.Same.tup s74 (Kw.Same.tup s73 (Kw.Same.tup s72 (Kw.Same.tup s71 (Kw.Same.tup s70 gx_j)))))))))))
  replace gv_j := (Kw.Same.tup s80 gv_j)
  refine ⟨_, _, _, _, _, _, _, _, rfl, h_j, gx_j, gv_j, (FB.mono dx_j (by decide)), (FB.mono dv_j (by decide)), (by omega), (by omega), g_r80, (FB.mono d_r80 (by decide)), fun p_r81 p_x81 p_v81 H81 s81 h_r81 g_x81 g_v81 => ?_⟩
  replace h_r78 := (Kw.Same.tup s81 (Kw.Same.tup s80 (Kw.Same.tup s79 h_r78)))
  replace g_x78 := (Kw.Same.tup s81 (Kw.Same.tup s80 (Kw.Same.tup s79 g_x78)))
  replace g_v78 := (Kw.Same.tup s81 (Kw.Same.tup s80 (Kw.Same.tup s79 g_v78)))
  refine ⟨_, rfl, _, rfl, _, _, _, _, _, _, _, _, _, _, _, _, rfl, h_r78, g_x78, g_v78, (FB.mono dx_i (by decide)), (FB.mono d_r77 (by decide)), (by omega), (by omega), h_r81, g_x81, g_v81, (FB.mono dx_j (by decide)), (FB.mono d_r80 (by decide)), (by omega), (by omega), fun p_r82 p_l82 p_g82 H82 s82 h_r82 g_l82 g_g82 => ?_⟩
  have d_l82 : FB 537 (mixQ ((((v_i * ((((t : Int) : Rat))))))) ((((v_j * ((((t : Int) : Rat))))))) ((m_i)) ((m_j))) := (FB.mono (FB.mix d_r77 d_r80 (by omega) (by omega) (by omega) (by omega)) (by decide))
  have d_g82 : FB 537 (mixQ ((((v_j * ((((t : Int) : Rat))))))) ((((v_i * ((((t : Int) : Rat))))))) ((m_j)) ((m_i))) := (FB.mono (FB.mix d_r80 d_r77 (by omega) (by omega) (by omega) (by omega)) (by decide))
  have e83 : ((((mixQ v_j v_i m_j m_i)) * ((((t : Int) : Rat)))) : Rat) = (mixQ ((((v_j * ((((t : Int) : Rat))))))) ((((v_i * ((((t : Int) : Rat))))))) ((m_j)) ((m_i))) := by unfold mixQ; grind
  replace g_r74 := (Kw.Same.tup s82 (Kw.Same.tup s81 (Kw.Same.tup s80 (Kw.Same.tup s79 (Kw.Same.tup s78 (Kw.Same.tup s77 (Kw.Same.tup s76 (Kw.Same.tup s75 g_r74))))))))
  have e84 : ((((mixQ v_i v_j m_i m_j)) * ((((t : Int) : Rat)))) : Rat) = (mixQ ((((v_i * ((((t : Int) : Rat))))))) ((((v_j * ((((t : Int) : Rat))))))) ((m_i)) ((m_j))) := by unfold mixQ; grind
  replace g_r72 := (Kw.Same.tup s82 (Kw.Same.tup s81 (Kw.Same.tup s80 (Kw.Same.tup s79 (Kw.Same.tup s78 (Kw.Same.tup s77 (Kw.Same.tup s76 (Kw.Same.tup s75 (Kw.Same.tup s74 (Kw.Same.tup s73 g_r72))))))))))
  replace h75 := (Kw.Same.tup s82 (Kw.Same.tup s81 (Kw.Same.tup s80 (Kw.Same.tup s79 (Kw.Same.tup s78 (Kw.Same.tup s77 (Kw.Same.tup s76 h75)))))))
  refine ⟨_, rfl, _, (.tup h_r82 (.cons (FQ.dp g_l82) (.cons (FQ.dp g_g82) .nil))), (.tup h75 (.cons (FQ.dp (FQ.cast g_r72 e84)) (.cons (FQ.dp (FQ.cast g_r74 e83)) .nil))), rfl, rfl, _, rfl, ?_⟩
  refine iteF ?_
  replace h_i := (Kw.Same.tup s82 (Kw.Same.tup s81 (Kw.Same.tup s80 (Kw.Same.tup s79 (Kw.Same.tup s78 h_i)))))
  have fd85 : (Int.fdiv m_i (9 : Int)) = m_i / (9 : Int) := Int.fdiv_eq_ediv_of_nonneg _ (by decide)
  refine ⟨_, rfl, p_i, _, _, _, rfl, rfl, h_i, rfl, _, rfl, p_i, _, _, _, rfl, rfl, h_i, rfl, _, rfl, p_i, _, _, _, rfl, rfl, h_i, rfl, _, _, rfl, rfl, ⟨by decide, by decide +kernel⟩, _, _, rfl, rfl, by show 3 ≤ sizeLine; decide, ?_⟩
  intro p86 n86
  obtain ⟨H86, q86, s86, e86⟩ := newO n86 (.tup [.ref a_i, .ref b_i, .int (((1 : Int) + (Int.fdiv m_i (9 : Int))))])
  rw [q86]
  clear q86
  have h86 := SqT.of (K := K) e86
  replace h_j := (Kw.Same.tup s86 (Kw.Same.tup s82 (Kw.Same.tup s81 h_j)))
  have fd87 : (Int.fdiv m_j (9 : Int)) = m_j / (9 : Int) := Int.fdiv_eq_ediv_of_nonneg _ (by decide)
  refine ⟨_, rfl, p_j, _, _, _, rfl, rfl, h_j, rfl, _, rfl, p_j, _, _, _, rfl, rfl, h_j, rfl, _, rfl, p_j, _, _, _, rfl, rfl, h_j, rfl, _, _, rfl, rfl, ⟨by decide, by decide +kernel⟩, _, _, rfl, rfl, by show 3 ≤ sizeLine; decide, ?_⟩
  intro p88 n88
  obtain ⟨H88, q88, s88, e88⟩ := newO n88 (.tup [.ref a_j, .ref b_j, .int (((1 : Int) + (Int.fdiv m_j (9 : Int))))])
  rw [q88]
  clear q88
  have h88 := SqT.of (K := K) e88
  replace h_i := (Kw.Same.tup s88 (Kw.Same.tup s86 h_i))
  replace h86 := (Kw.Same.tup s88 h86)
  refine ⟨_, rfl, p_i, _, _, _, rfl, rfl, h_i, rfl, _, rfl, p_i, _, _, _, rfl, rfl, h_i, rfl, _, rfl, p86, _, _, _, rfl, rfl, h86, rfl, _, _, rfl, rfl, ((Bd.add ((Bd.small (i := (1 : Int)) (by decide) (by decide)).mono (n := 64) (by decide)) ((Bd.small (i := (Int.fdiv m_i (9 : Int))) (by omega) (by omega)).mono (n := 64) (by decide))).ok (Bd.small (i := (7 : Int)) (by decide) (by decide)) (by decide)), by show 3 ≤ sizeLine; decide, ?_⟩
  intro p89 n89
  obtain ⟨H89, q89, s89, e89⟩ := newO n89 (.tup [.ref a_i, .ref b_i, .int ((((1 : Int) + (Int.fdiv m_i (9 : Int))) * (7 : Int)))])
  rw [q89]
  clear q89
  have h89 := SqT.of (K := K) e89
  replace h_j := (Kw.Same.tup s89 (Kw.Same.tup s88 h_j))
  replace h88 := (Kw.Same.tup s89 h88)
  refine ⟨_, rfl, p_j, _, _, _, rfl, rfl, h_j, rfl, _, rfl, p_j, _, _, _, rfl, rfl, h_j, rfl, _, rfl, p88, _, _, _, rfl, rfl, h88, rfl, _, _, rfl, rfl, ((Bd.add ((Bd.small (i := (1 : Int)) (by decide) (by decide)).mono (n := 64) (by decide)) ((Bd.small (i := (Int.fdiv m_j (9 : Int))) (by omega) (by omega)).mono (n := 64) (by decide))).ok (Bd.small (i := (7 : Int)) (by decide) (by decide)) (by decide)), by show 3 ≤ sizeLine; decide, ?_⟩
  intro p90 n90
  obtain ⟨H90, q90, s90, e90⟩ := newO n90 (.tup [.ref a_j, .ref b_j, .int ((((1 : Int) + (Int.fdiv m_j (9 : Int))) * (7 : Int)))])
  rw [q90]
  clear q90
  have h90 := SqT.of (K := K) e90
  refine ⟨by show 2 ≤ sizeLine; decide, ?_⟩
  intro p91 n91
  obtain ⟨H91, q91, s91, e91⟩ := newO n91 (.tup [.ref p89, .ref p90])
  rw [q91]
  clear q91
  have h91 := SqT.of (K := K) e91
  replace h86 := (Kw.Same.tup s91 (Kw.Same.tup s90 (Kw.Same.tup s89 h86)))
  replace gx_i := (Kw.Same.tup s91 (Kw.Same.tup s90 (Kw.Same.tup s89 (Kw.Same.tup s88 (Kw.Same.tup s86 (Kw.Same.tup s82 (Kw.Same.tup s81 (Kw.Same.tup s80 (Kw.Same.tup s79 (Kw.Same.tup s78 gx_i))))))))))
  replace gv_i := (Kw.Same.tup s91 (Kw.Same.tup s90 (Kw.Same.tup s89 (Kw.Same.tup s88 (Kw.Same.tup s86 (Kw.Same.tup s82 (Kw.Same.tup s81 (Kw.Same.tup s80 (Kw.Same.tup s79 (Kw.Same.tup s78 gv_i))))))))))
  replace h88 := (Kw.Same.tup s91 (Kw.Same.tup s90 h88))
  replace gx_j := (Kw.Same.tup s91 (Kw.Same.tup s90 (Kw.Same.tup s89 (Kw.Same.tup s88 (Kw.Same.tup s86 (Kw.Same.tup s82 (Kw.Same.tup s81 gx_j)))))))
  replace gv_j := (Kw.Same.tup s91 (Kw.Same.tup s90 (Kw.Same.tup s89 (Kw.Same.tup s88 (Kw.Same.tup s86 (Kw.Same.tup s82 (Kw.Same.tup s81 gv_j)))))))
  refine ⟨_, rfl, _, rfl, _, _, _, _, _, _, _, _, _, _, _, _, rfl, h86, gx_i, gv_i, (FB.mono dx_i (by decide)), (FB.mono dv_i (by decide)), (by omega), (by omega), h88, gx_j, gv_j, (FB.mono dx_j (by decide)), (FB.mono dv_j (by decide)), (by omega), (by omega), fun p_r92 p_l92 p_g92 H92 s92 h_r92 g_l92 g_g92 => ?_⟩
  have d_l92 : FB 409 (mixQ v_i v_j (((1 : Int) + (Int.fdiv m_i (9 : Int)))) (((1 : Int) + (Int.fdiv m_j (9 : Int))))) := (FB.mono (FB.mix dv_i dv_j (by omega) (by omega) (by omega) (by omega)) (by decide))
  have d_g92 : FB 409 (mixQ v_j v_i (((1 : Int) + (Int.fdiv m_j (9 : Int)))) (((1 : Int) + (Int.fdiv m_i (9 : Int))))) := (FB.mono (FB.mix dv_j dv_i (by omega) (by omega) (by omega) (by omega)) (by decide))
  replace h91 := (Kw.Same.tup s92 h91)
  replace h89 := (Kw.Same.tup s92 (Kw.Same.tup s91 (Kw.Same.tup s90 h89)))
  replace gx_i := (Kw.Same.tup s92 gx_i)
  replace gv_i := (Kw.Same.tup s92 gv_i)
  replace h90 := (Kw.Same.tup s92 (Kw.Same.tup s91 h90))
  replace gx_j := (Kw.Same.tup s92 gx_j)
  replace gv_j := (Kw.Same.tup s92 gv_j)
  refine ⟨_, rfl, p91, _, _, _, rfl, rfl, h91, rfl, _, rfl, p91, _, _, _, rfl, rfl, h91, rfl, _, _, _, _, _, _, _, _, _, _, _, _, rfl, h89, gx_i, gv_i, (FB.mono dx_i (by decide)), (FB.mono dv_i (by decide)), (by omega), (by omega), h90, gx_j, gv_j, (FB.mono dx_j (by decide)), (FB.mono dv_j (by decide)), (by omega), (by omega), fun p_r93 p_l93 p_g93 H93 s93 h_r93 g_l93 g_g93 => ?_⟩
  have d_l93 : FB 409 (mixQ v_i v_j ((((1 : Int) + (Int.fdiv m_i (9 : Int))) * (7 : Int))) ((((1 : Int) + (Int.fdiv m_j (9 : Int))) * (7 : Int)))) := (FB.mono (FB.mix dv_i dv_j (by omega) (by omega) (by omega) (by omega)) (by decide))
  have d_g93 : FB 409 (mixQ v_j v_i ((((1 : Int) + (Int.fdiv m_j (9 : Int))) * (7 : Int))) ((((1 : Int) + (Int.fdiv m_i (9 : Int))) * (7 : Int)))) := (FB.mono (FB.mix dv_j dv_i (by omega) (by omega) (by omega) (by omega)) (by decide))
  replace g_g92 := (Kw.Same.tup s93 g_g92)
  replace g_l92 := (Kw.Same.tup s93 g_l92)
  replace h_r92 := (Kw.Same.tup s93 h_r92)
  have e94 : ((mixQ v_j v_i ((((1 : Int) + (Int.fdiv m_j (9 : Int))) * (7 : Int))) ((((1 : Int) + (Int.fdiv m_i (9 : Int))) * (7 : Int)))) : Rat) = (mixQ v_j v_i (((1 : Int) + (Int.fdiv m_j (9 : Int)))) (((1 : Int) + (Int.fdiv m_i (9 : Int))))) := by exact mix_times (by omega) (by omega) (by decide)
  have e95 : ((mixQ v_i v_j ((((1 : Int) + (Int.fdiv m_i (9 : Int))) * (7 : Int))) ((((1 : Int) + (Int.fdiv m_j (9 : Int))) * (7 : Int)))) : Rat) = (mixQ v_i v_j (((1 : Int) + (Int.fdiv m_i (9 : Int)))) (((1 : Int) + (Int.fdiv m_j (9 : Int))))) := by exact mix_times (by omega) (by omega) (by decide)
  exact ⟨_, (.tup h_r92 (.cons (FQ.dp g_l92) (.cons (FQ.dp g_g92) .nil))), (.tup h_r93 (.cons (FQ.dp (FQ.cast g_l93 e95)) (.cons (FQ.dp (FQ.cast g_g93 e94)) .nil))), rfl, rfl, k0 _ (s70.trans (s71.trans (s72.trans (s73.trans (s74.trans (s75.trans (s76.trans (s77.trans (s78.trans (s79.trans (s80.trans (s81.trans (s82.trans (s86.trans (s88.trans (s89.trans (s90.trans (s91.trans (s92.trans s93)))))))))))))))))))⟩
theorem sc_law : FnScope ["_law_script", "_law_k", "_law_box_here", "_law_one", "_law_other", "_law_first", "_law_second", "_law_behind", "_law_back"] ["_law_script"] (defScope (top 38)) := ⟨rfl, rfl, rfl, by decide +kernel, rfl, by decide +kernel, by decide +kernel⟩
theorem ok_law (D : Df K mg "law" (top 38) ["_law_script"]) (T : Tx K mg) (F_law_box : Fn P w K mg base 2 "_law_box" ["_law_script", "_law_k"] (spBox K)) (F_law_two : Fn P w K mg base 3 "_law_two" ["_law_box_here"] (sp_law_two K)) (F_speeds_after : Fn P w K mg base 5 "speeds_after" ["one", "other"] (sp_speeds_after K)) (F_law_with : Fn P w K mg base 1 "_law_with" ["_law_one", "_law_speed"] (sp_law_with K)) (F_push : Fn P w K mg base 4 "push" ["bodies"] (sp_push K)) (F_might : Fn P w K mg base 4 "might" ["bodies"] (sp_might K)) (F_law_about : Fn P w K mg base 1 "_law_about" ["_law_speed"] (sp_law_about K)) (F_law_minus : Fn P w K mg base 2 "_law_minus" ["_law_one", "_law_other"] (sp_law_minus K)) (F_law_take : Fn P w K mg base 1 "_law_take" ["_law_box_here", "_law_many"] spTake) (F_law_greater_right : Fn P w K mg base 6 "_law_greater_right" ["_law_one", "_law_other", "_law_times_here"] (sp_law_greater_right K)) : Fn P w K mg base 7 "law" ["_law_script"] (spLaw K) := by
  refine D.ok0 sc_law (fun vs H Q E h => ?_) (fun f cdv A outer s H vs Q E hr h => ?_)
  · obtain ⟨a, rfl, _⟩ := h
    rfl
  obtain ⟨a, rfl, hS, fin⟩ := h
  refine ⟨_, (pss_cons (ps_for PassesOwn.never rfl (pi_range1 (by rfl) T.b_range (pa_cons (pe_callB (call_max2 rfl) (by rfl) T.b_max PyProof.Rows.Boot.«max» (pa_cons pe_int (pa_cons (pe_callB (call_min2 rfl) (by rfl) T.b_min PyProof.Rows.Boot.«min» (pa_cons (pe_callB call_len (by rfl) T.b_len PyProof.Rows.Boot.«len» (pa_cons (pv 0) pa_nil)) (pa_cons pe_int pa_nil))) pa_nil))) pa_nil)) (pg_name (i := 1) sc_law.nd rfl (Or.inl rfl)) (pss_cons (ps_set (i := 2) sc_law.nd rfl (Or.inl rfl) (pe_fn F_law_box (by decide) hr (by rfl) passE0 (pa_cons (pv 0) (pa_cons (pv 1) pa_nil))))
      (pss_cons (ps_asg (pe_fn F_law_two (by decide) hr (by rfl) passE0 (pa_cons (pv 2) pa_nil)) (pg_tup rfl (pgs_cons (pg_name (i := 3) sc_law.nd rfl (Or.inl rfl)) (pgs_cons (pg_name (i := 4) sc_law.nd rfl (Or.inl rfl)) pgs_nil))))
      (pss_cons (ps_asg (pe_fn F_speeds_after (by decide) hr (by rfl) passE0 (pa_cons (pv 3) (pa_cons (pv 4) pa_nil))) (pg_tup rfl (pgs_cons (pg_name (i := 5) sc_law.nd rfl (Or.inl rfl)) (pgs_cons (pg_name (i := 6) sc_law.nd rfl (Or.inl rfl)) pgs_nil))))
      (pss_cons (ps_set (i := 7) sc_law.nd rfl (Or.inl rfl) (pe_lst (pa_cons (pe_fn F_law_with (by decide) hr (by rfl) passE0 (pa_cons (pv 3) (pa_cons (pv 5) pa_nil))) (pa_cons (pe_fn F_law_with (by decide) hr (by rfl) passE0 (pa_cons (pv 4) (pa_cons (pv 6) pa_nil))) pa_nil))))
      (pss_cons (ps_if (pw_or (pt_cmpR (op_neA (K := K) rfl (u100 hr)) (pe_fn F_push (by decide) hr (by rfl) passE0 (pa_cons (pv 7) pa_nil)) (pe_fn F_push (by decide) hr (by rfl) passE0 (pa_cons (pe_lst (pa_cons (pv 3) (pa_cons (pv 4) pa_nil))) pa_nil)) (nomark _)) (pw_or1 (pt_cmpR (op_neA (K := K) rfl (u100 hr)) (pe_fn F_might (by decide) hr (by rfl) passE0 (pa_cons (pv 7) pa_nil)) (pe_fn F_might (by decide) hr (by rfl) passE0 (pa_cons (pe_lst (pa_cons (pv 3) (pa_cons (pv 4) pa_nil))) pa_nil)) (nomark _)))).pt (pss_one (ps_ret pe_bl)) pss_nil)
      (pss_cons (ps_if (pt_cmpR (op_neA (K := K) rfl (u100 hr)) (pe_fn F_speeds_after (by decide) hr (by rfl) passE0 (pa_cons (pe_ix ix_list (pv 7) pe_int (fun _ _ => rfl)) (pa_cons (pe_ix ix_list (pv 7) pe_int (fun _ _ => rfl)) pa_nil))) (pe_tup (pa_cons (pe_ix ix_tup (pv 3) pe_int (fun _ _ => rfl)) (pa_cons (pe_ix ix_tup (pv 4) pe_int (fun _ _ => rfl)) pa_nil))) (nomark _)) (pss_one (ps_ret pe_bl)) pss_nil)
      (pss_cons (ps_set (i := 8) sc_law.nd rfl (Or.inl rfl) (pe_fn F_speeds_after (by decide) hr (by rfl) passE0 (pa_cons (pe_fn F_law_with (by decide) hr (by rfl) passE0 (pa_cons (pv 3) (pa_cons (pe_fn F_law_about (by decide) hr (by rfl) passE0 (pa_cons (pv 5) pa_nil)) pa_nil))) (pa_cons (pe_fn F_law_with (by decide) hr (by rfl) passE0 (pa_cons (pv 4) (pa_cons (pe_fn F_law_about (by decide) hr (by rfl) passE0 (pa_cons (pv 6) pa_nil)) pa_nil))) pa_nil))))
      (pss_cons (ps_if (pt_cmpR (op_neA (K := K) rfl (u100 hr)) (pv 8) (pe_tup (pa_cons (pe_fn F_law_about (by decide) hr (by rfl) passE0 (pa_cons (pe_ix ix_tup (pv 3) pe_int (fun _ _ => rfl)) pa_nil)) (pa_cons (pe_fn F_law_about (by decide) hr (by rfl) passE0 (pa_cons (pe_ix ix_tup (pv 4) pe_int (fun _ _ => rfl)) pa_nil)) pa_nil))) (nomark _)) (pss_one (ps_ret pe_bl)) pss_nil)
      (pss_cons (ps_if (pt_cmpR (op_neA (K := K) rfl (u100 hr)) (pe_fn F_law_minus (by decide) hr (by rfl) passE0 (pa_cons (pv 6) (pa_cons (pv 5) pa_nil))) (pe_fn F_law_minus (by decide) hr (by rfl) passE0 (pa_cons (pe_ix ix_tup (pv 3) pe_int (fun _ _ => rfl)) (pa_cons (pe_ix ix_tup (pv 4) pe_int (fun _ _ => rfl)) pa_nil))) (nomark _)) (pss_one (ps_ret pe_bl)) pss_nil)
      (pss_one (ps_if (pt_not (pt_val (pe_fn F_law_greater_right (by decide) hr (by rfl) passE0 (pa_cons (pv 3) (pa_cons (pv 4) (pa_cons (pe_op op_add pe_int (pe_fn F_law_take (by decide) hr (by rfl) passE0 (pa_cons (pv 2) (pa_cons pe_int pa_nil)))) pa_nil)))) (fun _ => rfl))) (pss_one (ps_ret pe_bl)) pss_nil))))))))))))
      (pss_one (ps_ret pe_bl))), ?_⟩
  obtain ⟨ns, hL, h63, _⟩ := id hS
  refine ⟨_, rfl, _, _, rfl, .inl ⟨_, hL, rfl⟩, _, _, rfl, _, _, rfl, _, rfl, ?_⟩
  have hm : ∀ m : Int, m = (if (if (8 : Int) < (((ns.map V.int).length : Nat) : Int) then (8 : Int) else (((ns.map V.int).length : Nat) : Int)) > 1 then (if (8 : Int) < (((ns.map V.int).length : Nat) : Int) then (8 : Int) else (((ns.map V.int).length : Nat) : Int)) else 1) → 1 ≤ m ∧ m ≤ 8 := fun m e => by
    subst e
    split
    · split <;> omega
    · omega
  generalize hme : (if (if (8 : Int) < (((ns.map V.int).length : Nat) : Int) then (8 : Int) else (((ns.map V.int).length : Nat) : Int)) > 1 then (if (8 : Int) < (((ns.map V.int).length : Nat) : Int) then (8 : Int) else (((ns.map V.int).length : Nat) : Int)) else 1) = m
  obtain ⟨m1, m8⟩ := hm m hme.symm
  refine ⟨by omega, by omega, for_range (n := m.toNat) (fun i σ' H' => ∃ r96 r97 r98 r99 r100 r101 r102 r103 : Option V, σ' = [some (.ref a), r96, r97, r98, r99, r100, r101, r102, r103] ∧ Same H H') ⟨_, _, _, _, _, _, _, _, rfl, Same.refl H⟩ ?_ ?_⟩
  · rintro i σ0 H0 hi ⟨r96, r97, r98, r99, r100, r101, r102, r103, rfl, sm⟩
    refine ⟨_, rfl, _, rfl, a, _, rfl, Scr.same hS sm, by omega, by omega, fun b nb Hb hb0 sb hb => ?_⟩
    refine ⟨_, rfl, _, _, rfl, hb, fun p_t104 p_o1104 p_x1104 x1104 p_v1104 v1104 m1104 p_o2104 p_x2104 x2104 p_v2104 v2104 m2104 H104 n104 s104 hb104 h_t104 h_o1104 g_x1104 d_x1104 g_v1104 d_v1104 t0_m1104 t1_m1104 h_o2104 g_x2104 d_x2104 t0_x2104 g_v2104 d_v2104 t0_m2104 t1_m2104 => ?_⟩
    refine ⟨p_t104, _, rfl, h_t104, rfl, _, _, rfl, _, _, rfl, rfl, ?_⟩
    refine ⟨_, rfl, _, rfl, _, _, _, _, _, _, _, _, _, _, _, _, rfl, h_o1104, g_x1104, g_v1104, (FB.mono d_x1104 (by decide)), (FB.mono d_v1104 (by decide)), (by omega), (by omega), h_o2104, g_x2104, g_v2104, (FB.mono d_x2104 (by decide)), (FB.mono d_v2104 (by decide)), (by omega), (by omega), fun p_r105 p_l105 p_g105 H105 s105 h_r105 g_l105 g_g105 => ?_⟩
    have hB106 := s105 _ _ hb104
    have d_l105 : FB 269 (mixQ v1104 v2104 m1104 m2104) := (FB.mono (FB.mix d_v1104 d_v2104 (by omega) (by omega) (by omega) (by omega)) (by decide))
    have d_g105 : FB 269 (mixQ v2104 v1104 m2104 m1104) := (FB.mono (FB.mix d_v2104 d_v1104 (by omega) (by omega) (by omega) (by omega)) (by decide))
    refine ⟨p_r105, _, rfl, h_r105, rfl, _, _, rfl, _, _, rfl, rfl, ?_⟩
    replace h_o1104 := (Kw.Same.tup s105 h_o1104)
    replace g_x1104 := (Kw.Same.tup s105 g_x1104)
    replace g_v1104 := (Kw.Same.tup s105 g_v1104)
    refine ⟨_, rfl, _, rfl, _, _, _, _, _, _, _, _, rfl, h_o1104, g_x1104, g_v1104, (FB.mono d_x1104 (by decide)), (FB.mono d_v1104 (by decide)), (by omega), (by omega), g_l105, (FB.mono d_l105 (by decide)), fun p_r107 p_x107 p_v107 H107 s107 h_r107 g_x107 g_v107 => ?_⟩
    have hB108 := s107 _ _ hB106
    replace h_o2104 := (Kw.Same.tup s107 (Kw.Same.tup s105 h_o2104))
    replace g_x2104 := (Kw.Same.tup s107 (Kw.Same.tup s105 g_x2104))
    replace g_v2104 := (Kw.Same.tup s107 (Kw.Same.tup s105 g_v2104))
    replace g_g105 := (Kw.Same.tup s107 g_g105)
    refine ⟨_, rfl, _, rfl, _, _, _, _, _, _, _, _, rfl, h_o2104, g_x2104, g_v2104, (FB.mono d_x2104 (by decide)), (FB.mono d_v2104 (by decide)), (by omega), (by omega), g_g105, (FB.mono d_g105 (by decide)), fun p_r109 p_x109 p_v109 H109 s109 h_r109 g_x109 g_v109 => ?_⟩
    have hB110 := s109 _ _ hB108
    refine ⟨by show 2 ≤ sizeLine; decide, ?_⟩
    intro p111 n111
    obtain ⟨H111, q111, s111, e111⟩ := newO n111 (.lst [.ref p_r107, .ref p_r109])
    rw [q111]
    clear q111
    have hB112 := s111 _ _ hB110
    have h111 := SqL.of (K := K) e111
    have ap111 : p111 ≠ b := fun z => by rw [z, hB110] at n111; cases n111
    replace h_r109 := (Kw.Same.tup s111 h_r109)
    replace g_x109 := (Kw.Same.tup s111 g_x109)
    replace g_v109 := (Kw.Same.tup s111 g_v109)
    replace h_r107 := (Kw.Same.tup s111 (Kw.Same.tup s109 h_r107))
    replace g_x107 := (Kw.Same.tup s111 (Kw.Same.tup s109 g_x107))
    replace g_v107 := (Kw.Same.tup s111 (Kw.Same.tup s109 g_v107))
    refine ⟨_, rfl, _, _, [((x1104), (((mixQ v1104 v2104 m1104 m2104))), (m1104)), ((x2104), (((mixQ v2104 v1104 m2104 m1104))), (m2104))], 269, rfl, h111, ⟨⟨_, _, _, rfl, h_r107, g_x107, g_v107, (FB.mono d_x1104 (by decide)), (FB.mono d_l105 (by decide)), (by show (1 : Int) ≤ (m1104); omega), (by show (m1104) ≤ (10000 : Int); omega)⟩, ⟨⟨_, _, _, rfl, h_r109, g_x109, g_v109, (FB.mono d_x2104 (by decide)), (FB.mono d_g105 (by decide)), (by show (1 : Int) ≤ (m2104); omega), (by show (m2104) ≤ (10000 : Int); omega)⟩, trivial⟩⟩, (by simp only [List.length_cons, List.length_nil]; decide), fun p_r113 H113 s113 g_r113 => ?_⟩
    have hB114 := s113 _ _ hB112
    have d_r113 : FB 667 (pushQ ([((x1104), (((mixQ v1104 v2104 m1104 m2104))), (m1104)), ((x2104), (((mixQ v2104 v1104 m2104 m1104))), (m2104))])) := (FB.mono (FB.push2 (by omega) (by omega) (by omega) (by omega) d_l105 d_g105) (by decide))
    refine ⟨_, rfl, _, rfl, by show 2 ≤ sizeLine; decide, ?_⟩
    intro p115 n115
    obtain ⟨H115, q115, s115, e115⟩ := newO n115 (.lst [.ref p_o1104, .ref p_o2104])
    rw [q115]
    clear q115
    have hB116 := s115 _ _ hB114
    have h115 := SqL.of (K := K) e115
    have ap115 : p115 ≠ b := fun z => by rw [z, hB114] at n115; cases n115
    replace h_o2104 := (Kw.Same.tup s115 (Kw.Same.tup s113 (Kw.Same.tup s111 (Kw.Same.tup s109 h_o2104))))
    replace g_x2104 := (Kw.Same.tup s115 (Kw.Same.tup s113 (Kw.Same.tup s111 (Kw.Same.tup s109 g_x2104))))
    replace g_v2104 := (Kw.Same.tup s115 (Kw.Same.tup s113 (Kw.Same.tup s111 (Kw.Same.tup s109 g_v2104))))
    replace h_o1104 := (Kw.Same.tup s115 (Kw.Same.tup s113 (Kw.Same.tup s111 (Kw.Same.tup s109 (Kw.Same.tup s107 h_o1104)))))
    replace g_x1104 := (Kw.Same.tup s115 (Kw.Same.tup s113 (Kw.Same.tup s111 (Kw.Same.tup s109 (Kw.Same.tup s107 g_x1104)))))
    replace g_v1104 := (Kw.Same.tup s115 (Kw.Same.tup s113 (Kw.Same.tup s111 (Kw.Same.tup s109 (Kw.Same.tup s107 g_v1104)))))
    refine ⟨_, _, [(x1104, v1104, m1104), (x2104, v2104, m2104)], 140, rfl, h115, ⟨⟨_, _, _, rfl, h_o1104, g_x1104, g_v1104, (FB.mono d_x1104 (by decide)), (FB.mono d_v1104 (by decide)), (by show (1 : Int) ≤ m1104; omega), (by show m1104 ≤ (10000 : Int); omega)⟩, ⟨⟨_, _, _, rfl, h_o2104, g_x2104, g_v2104, (FB.mono d_x2104 (by decide)), (FB.mono d_v2104 (by decide)), (by show (1 : Int) ≤ m2104; omega), (by show m2104 ≤ (10000 : Int); omega)⟩, trivial⟩⟩, (by simp only [List.length_cons, List.length_nil]; decide), fun p_r117 H117 s117 g_r117 => ?_⟩
    have hB118 := s117 _ _ hB116
    have d_r117 : FB 269 (pushQ ([(x1104, v1104, m1104), (x2104, v2104, m2104)])) := (FB.mono (FB.push2 (by omega) (by omega) (by omega) (by omega) d_v1104 d_v2104) (by decide))
    replace g_r113 := (Kw.Same.tup s117 (Kw.Same.tup s115 g_r113))
    have e119 : ((pushQ ([(x1104, v1104, m1104), (x2104, v2104, m2104)])) : Rat) = (pushQ ([((x1104), (((mixQ v1104 v2104 m1104 m2104))), (m1104)), ((x2104), (((mixQ v2104 v1104 m2104 m1104))), (m2104))])) := by have z := q_wne (m := m1104) (w := m2104) (by omega) (by omega); rw [push2, push2]; simp only [mixQ_eq]; grind
    refine ⟨_, (FQ.dp g_r113), (FQ.dp (FQ.cast g_r117 e119)), rfl, rfl, _, rfl, ?_⟩
    refine iteF ?_
    replace h_r109 := (Kw.Same.tup s117 (Kw.Same.tup s115 (Kw.Same.tup s113 h_r109)))
    replace g_x109 := (Kw.Same.tup s117 (Kw.Same.tup s115 (Kw.Same.tup s113 g_x109)))
    replace g_v109 := (Kw.Same.tup s117 (Kw.Same.tup s115 (Kw.Same.tup s113 g_v109)))
    replace h_r107 := (Kw.Same.tup s117 (Kw.Same.tup s115 (Kw.Same.tup s113 h_r107)))
    replace g_x107 := (Kw.Same.tup s117 (Kw.Same.tup s115 (Kw.Same.tup s113 g_x107)))
    replace g_v107 := (Kw.Same.tup s117 (Kw.Same.tup s115 (Kw.Same.tup s113 g_v107)))
    replace h111 := (Same.seq s117 (Same.seq s115 (Same.seq s113 h111)))
    refine ⟨_, rfl, _, _, [((x1104), (((mixQ v1104 v2104 m1104 m2104))), (m1104)), ((x2104), (((mixQ v2104 v1104 m2104 m1104))), (m2104))], 269, rfl, h111, ⟨⟨_, _, _, rfl, h_r107, g_x107, g_v107, (FB.mono d_x1104 (by decide)), (FB.mono d_l105 (by decide)), (by show (1 : Int) ≤ (m1104); omega), (by show (m1104) ≤ (10000 : Int); omega)⟩, ⟨⟨_, _, _, rfl, h_r109, g_x109, g_v109, (FB.mono d_x2104 (by decide)), (FB.mono d_g105 (by decide)), (by show (1 : Int) ≤ (m2104); omega), (by show (m2104) ≤ (10000 : Int); omega)⟩, trivial⟩⟩, (by simp only [List.length_cons, List.length_nil]; decide), fun p_r120 H120 s120 g_r120 => ?_⟩
    have hB121 := s120 _ _ hB118
    have d_r120 : FB 1205 (mightQ ([((x1104), (((mixQ v1104 v2104 m1104 m2104))), (m1104)), ((x2104), (((mixQ v2104 v1104 m2104 m1104))), (m2104))])) := (FB.mono (FB.might2 (by omega) (by omega) (by omega) (by omega) d_l105 d_g105) (by decide))
    refine ⟨_, rfl, _, rfl, by show 2 ≤ sizeLine; decide, ?_⟩
    intro p122 n122
    obtain ⟨H122, q122, s122, e122⟩ := newO n122 (.lst [.ref p_o1104, .ref p_o2104])
    rw [q122]
    clear q122
    have hB123 := s122 _ _ hB121
    have h122 := SqL.of (K := K) e122
    have ap122 : p122 ≠ b := fun z => by rw [z, hB121] at n122; cases n122
    replace h_o2104 := (Kw.Same.tup s122 (Kw.Same.tup s120 (Kw.Same.tup s117 h_o2104)))
    replace g_x2104 := (Kw.Same.tup s122 (Kw.Same.tup s120 (Kw.Same.tup s117 g_x2104)))
    replace g_v2104 := (Kw.Same.tup s122 (Kw.Same.tup s120 (Kw.Same.tup s117 g_v2104)))
    replace h_o1104 := (Kw.Same.tup s122 (Kw.Same.tup s120 (Kw.Same.tup s117 h_o1104)))
    replace g_x1104 := (Kw.Same.tup s122 (Kw.Same.tup s120 (Kw.Same.tup s117 g_x1104)))
    replace g_v1104 := (Kw.Same.tup s122 (Kw.Same.tup s120 (Kw.Same.tup s117 g_v1104)))
    refine ⟨_, _, [(x1104, v1104, m1104), (x2104, v2104, m2104)], 140, rfl, h122, ⟨⟨_, _, _, rfl, h_o1104, g_x1104, g_v1104, (FB.mono d_x1104 (by decide)), (FB.mono d_v1104 (by decide)), (by show (1 : Int) ≤ m1104; omega), (by show m1104 ≤ (10000 : Int); omega)⟩, ⟨⟨_, _, _, rfl, h_o2104, g_x2104, g_v2104, (FB.mono d_x2104 (by decide)), (FB.mono d_v2104 (by decide)), (by show (1 : Int) ≤ m2104; omega), (by show m2104 ≤ (10000 : Int); omega)⟩, trivial⟩⟩, (by simp only [List.length_cons, List.length_nil]; decide), fun p_r124 H124 s124 g_r124 => ?_⟩
    have hB125 := s124 _ _ hB123
    have d_r124 : FB 409 (mightQ ([(x1104, v1104, m1104), (x2104, v2104, m2104)])) := (FB.mono (FB.might2 (by omega) (by omega) (by omega) (by omega) d_v1104 d_v2104) (by decide))
    replace g_r120 := (Kw.Same.tup s124 (Kw.Same.tup s122 g_r120))
    have e126 : ((mightQ ([(x1104, v1104, m1104), (x2104, v2104, m2104)])) : Rat) = (mightQ ([((x1104), (((mixQ v1104 v2104 m1104 m2104))), (m1104)), ((x2104), (((mixQ v2104 v1104 m2104 m1104))), (m2104))])) := by have z := q_wne (m := m1104) (w := m2104) (by omega) (by omega); rw [might2, might2]; simp only [mixQ_eq]; grind
    refine ⟨_, (FQ.dp g_r120), (FQ.dp (FQ.cast g_r124 e126)), rfl, rfl, _, rfl, ?_⟩
    refine iteF ?_
    replace h111 := (Same.seq s124 (Same.seq s122 (Same.seq s120 h111)))
    replace h_r107 := (Kw.Same.tup s124 (Kw.Same.tup s122 (Kw.Same.tup s120 h_r107)))
    replace g_x107 := (Kw.Same.tup s124 (Kw.Same.tup s122 (Kw.Same.tup s120 g_x107)))
    replace g_v107 := (Kw.Same.tup s124 (Kw.Same.tup s122 (Kw.Same.tup s120 g_v107)))
    replace h_r109 := (Kw.Same.tup s124 (Kw.Same.tup s122 (Kw.Same.tup s120 h_r109)))
    replace g_x109 := (Kw.Same.tup s124 (Kw.Same.tup s122 (Kw.Same.tup s120 g_x109)))
    replace g_v109 := (Kw.Same.tup s124 (Kw.Same.tup s122 (Kw.Same.tup s120 g_v109)))
    refine ⟨_, rfl, p111, _, _, _, rfl, rfl, h111, rfl, _, rfl, p111, _, _, _, rfl, rfl, h111, rfl, _, _, _, _, _, _, _, _, _, _, _, _, rfl, h_r107, g_x107, g_v107, (FB.mono d_x1104 (by decide)), (FB.mono d_l105 (by decide)), (by omega), (by omega), h_r109, g_x109, g_v109, (FB.mono d_x2104 (by decide)), (FB.mono d_g105 (by decide)), (by omega), (by omega), fun p_r127 p_l127 p_g127 H127 s127 h_r127 g_l127 g_g127 => ?_⟩
    have hB128 := s127 _ _ hB125
    have d_l127 : FB 667 (mixQ ((((mixQ v1104 v2104 m1104 m2104)))) ((((mixQ v2104 v1104 m2104 m1104)))) ((m1104)) ((m2104))) := (FB.mono (FB.mix d_l105 d_g105 (by omega) (by omega) (by omega) (by omega)) (by decide))
    have d_g127 : FB 667 (mixQ ((((mixQ v2104 v1104 m2104 m1104)))) ((((mixQ v1104 v2104 m1104 m2104)))) ((m2104)) ((m1104))) := (FB.mono (FB.mix d_g105 d_l105 (by omega) (by omega) (by omega) (by omega)) (by decide))
    replace h_o1104 := (Kw.Same.tup s127 (Kw.Same.tup s124 h_o1104))
    replace h_o2104 := (Kw.Same.tup s127 (Kw.Same.tup s124 h_o2104))
    refine ⟨_, rfl, p_o1104, _, _, _, rfl, rfl, h_o1104, rfl, _, rfl, p_o2104, _, _, _, rfl, rfl, h_o2104, rfl, by show 2 ≤ sizeLine; decide, ?_⟩
    intro p129 n129
    obtain ⟨H129, q129, s129, e129⟩ := newO n129 (.tup [.ref p_v1104, .ref p_v2104])
    rw [q129]
    clear q129
    have hB130 := s129 _ _ hB128
    have h129 := SqT.of (K := K) e129
    replace g_g127 := (Kw.Same.tup s129 g_g127)
    replace g_l127 := (Kw.Same.tup s129 g_l127)
    replace h_r127 := (Kw.Same.tup s129 h_r127)
    have e131 : (v2104 : Rat) = (mixQ ((((mixQ v2104 v1104 m2104 m1104)))) ((((mixQ v1104 v2104 m1104 m2104)))) ((m2104)) ((m1104))) := by have z := q_wne (m := m1104) (w := m2104) (by omega) (by omega); simp only [mixQ_eq]; grind
    replace g_v2104 := (Kw.Same.tup s129 (Kw.Same.tup s127 (Kw.Same.tup s124 g_v2104)))
    have e132 : (v1104 : Rat) = (mixQ ((((mixQ v1104 v2104 m1104 m2104)))) ((((mixQ v2104 v1104 m2104 m1104)))) ((m1104)) ((m2104))) := by have z := q_wne (m := m1104) (w := m2104) (by omega) (by omega); simp only [mixQ_eq]; grind
    replace g_v1104 := (Kw.Same.tup s129 (Kw.Same.tup s127 (Kw.Same.tup s124 g_v1104)))
    refine ⟨_, (.tup h_r127 (.cons (FQ.dp g_l127) (.cons (FQ.dp g_g127) .nil))), (.tup h129 (.cons (FQ.dp (FQ.cast g_v1104 e132)) (.cons (FQ.dp (FQ.cast g_v2104 e131)) .nil))), rfl, rfl, _, rfl, ?_⟩
    refine iteF ?_
    replace g_l105 := (Kw.Same.tup s129 (Kw.Same.tup s127 (Kw.Same.tup s124 (Kw.Same.tup s122 (Kw.Same.tup s120 (Kw.Same.tup s117 (Kw.Same.tup s115 (Kw.Same.tup s113 (Kw.Same.tup s111 (Kw.Same.tup s109 (Kw.Same.tup s107 g_l105)))))))))))
    refine ⟨_, rfl, _, rfl, _, _, rfl, g_l105, (FB.mono d_l105 (by decide)), fun p_r133 H133 s133 g_r133 => ?_⟩
    have hB134 := s133 _ _ hB130
    have d_r133 : FB 269 (-((mixQ v1104 v2104 m1104 m2104))) := (FB.mono (FB.neg d_l105) (by decide))
    replace h_o1104 := (Kw.Same.tup s133 (Kw.Same.tup s129 h_o1104))
    replace g_x1104 := (Kw.Same.tup s133 (Kw.Same.tup s129 (Kw.Same.tup s127 (Kw.Same.tup s124 g_x1104))))
    replace g_v1104 := (Kw.Same.tup s133 g_v1104)
    refine ⟨_, _, _, _, _, _, _, _, rfl, h_o1104, g_x1104, g_v1104, (FB.mono d_x1104 (by decide)), (FB.mono d_v1104 (by decide)), (by omega), (by omega), g_r133, (FB.mono d_r133 (by decide)), fun p_r135 p_x135 p_v135 H135 s135 h_r135 g_x135 g_v135 => ?_⟩
    have hB136 := s135 _ _ hB134
    replace g_g105 := (Kw.Same.tup s135 (Kw.Same.tup s133 (Kw.Same.tup s129 (Kw.Same.tup s127 (Kw.Same.tup s124 (Kw.Same.tup s122 (Kw.Same.tup s120 (Kw.Same.tup s117 (Kw.Same.tup s115 (Kw.Same.tup s113 (Kw.Same.tup s111 (Kw.Same.tup s109 g_g105))))))))))))
    refine ⟨_, rfl, _, rfl, _, _, rfl, g_g105, (FB.mono d_g105 (by decide)), fun p_r137 H137 s137 g_r137 => ?_⟩
    have hB138 := s137 _ _ hB136
    have d_r137 : FB 269 (-((mixQ v2104 v1104 m2104 m1104))) := (FB.mono (FB.neg d_g105) (by decide))
    replace h_o2104 := (Kw.Same.tup s137 (Kw.Same.tup s135 (Kw.Same.tup s133 (Kw.Same.tup s129 h_o2104))))
    replace g_x2104 := (Kw.Same.tup s137 (Kw.Same.tup s135 (Kw.Same.tup s133 (Kw.Same.tup s129 (Kw.Same.tup s127 (Kw.Same.tup s124 g_x2104))))))
    replace g_v2104 := (Kw.Same.tup s137 (Kw.Same.tup s135 (Kw.Same.tup s133 g_v2104)))
    refine ⟨_, _, _, _, _, _, _, _, rfl, h_o2104, g_x2104, g_v2104, (FB.mono d_x2104 (by decide)), (FB.mono d_v2104 (by decide)), (by omega), (by omega), g_r137, (FB.mono d_r137 (by decide)), fun p_r139 p_x139 p_v139 H139 s139 h_r139 g_x139 g_v139 => ?_⟩
    have hB140 := s139 _ _ hB138
    replace h_r135 := (Kw.Same.tup s139 (Kw.Same.tup s137 h_r135))
    replace g_x135 := (Kw.Same.tup s139 (Kw.Same.tup s137 g_x135))
    replace g_v135 := (Kw.Same.tup s139 (Kw.Same.tup s137 g_v135))
    refine ⟨_, _, _, _, _, _, _, _, _, _, _, _, rfl, h_r135, g_x135, g_v135, (FB.mono d_x1104 (by decide)), (FB.mono d_r133 (by decide)), (by omega), (by omega), h_r139, g_x139, g_v139, (FB.mono d_x2104 (by decide)), (FB.mono d_r137 (by decide)), (by omega), (by omega), fun p_r141 p_l141 p_g141 H141 s141 h_r141 g_l141 g_g141 => ?_⟩
    have hB142 := s141 _ _ hB140
    have d_l141 : FB 667 (mixQ ((((-((mixQ v1104 v2104 m1104 m2104)))))) ((((-((mixQ v2104 v1104 m2104 m1104)))))) ((m1104)) ((m2104))) := (FB.mono (FB.mix d_r133 d_r137 (by omega) (by omega) (by omega) (by omega)) (by decide))
    have d_g141 : FB 667 (mixQ ((((-((mixQ v2104 v1104 m2104 m1104)))))) ((((-((mixQ v1104 v2104 m1104 m2104)))))) ((m2104)) ((m1104))) := (FB.mono (FB.mix d_r137 d_r133 (by omega) (by omega) (by omega) (by omega)) (by decide))
    replace h_o1104 := (Kw.Same.tup s141 (Kw.Same.tup s139 (Kw.Same.tup s137 (Kw.Same.tup s135 h_o1104))))
    replace g_v1104 := (Kw.Same.tup s141 (Kw.Same.tup s139 (Kw.Same.tup s137 (Kw.Same.tup s135 g_v1104))))
    refine ⟨_, rfl, _, rfl, p_o1104, _, _, _, rfl, rfl, h_o1104, rfl, _, _, rfl, g_v1104, (FB.mono d_v1104 (by decide)), fun p_r143 H143 s143 g_r143 => ?_⟩
    have hB144 := s143 _ _ hB142
    have d_r143 : FB 70 (-v1104) := (FB.mono (FB.neg d_v1104) (by decide))
    replace h_o2104 := (Kw.Same.tup s143 (Kw.Same.tup s141 (Kw.Same.tup s139 h_o2104)))
    replace g_v2104 := (Kw.Same.tup s143 (Kw.Same.tup s141 (Kw.Same.tup s139 g_v2104)))
    refine ⟨_, rfl, p_o2104, _, _, _, rfl, rfl, h_o2104, rfl, _, _, rfl, g_v2104, (FB.mono d_v2104 (by decide)), fun p_r145 H145 s145 g_r145 => ?_⟩
    have hB146 := s145 _ _ hB144
    have d_r145 : FB 70 (-v2104) := (FB.mono (FB.neg d_v2104) (by decide))
    refine ⟨by show 2 ≤ sizeLine; decide, ?_⟩
    intro p147 n147
    obtain ⟨H147, q147, s147, e147⟩ := newO n147 (.tup [.ref p_r143, .ref p_r145])
    rw [q147]
    clear q147
    have hB148 := s147 _ _ hB146
    have h147 := SqT.of (K := K) e147
    replace g_g141 := (Kw.Same.tup s147 (Kw.Same.tup s145 (Kw.Same.tup s143 g_g141)))
    replace g_l141 := (Kw.Same.tup s147 (Kw.Same.tup s145 (Kw.Same.tup s143 g_l141)))
    replace h_r141 := (Kw.Same.tup s147 (Kw.Same.tup s145 (Kw.Same.tup s143 h_r141)))
    have e149 : ((-v2104) : Rat) = (mixQ ((((-((mixQ v2104 v1104 m2104 m1104)))))) ((((-((mixQ v1104 v2104 m1104 m2104)))))) ((m2104)) ((m1104))) := by have z := q_wne (m := m1104) (w := m2104) (by omega) (by omega); simp only [mixQ_eq]; grind
    replace g_r145 := (Kw.Same.tup s147 g_r145)
    have e150 : ((-v1104) : Rat) = (mixQ ((((-((mixQ v1104 v2104 m1104 m2104)))))) ((((-((mixQ v2104 v1104 m2104 m1104)))))) ((m1104)) ((m2104))) := by have z := q_wne (m := m1104) (w := m2104) (by omega) (by omega); simp only [mixQ_eq]; grind
    replace g_r143 := (Kw.Same.tup s147 (Kw.Same.tup s145 g_r143))
    refine ⟨_, (.tup h_r141 (.cons (FQ.dp g_l141) (.cons (FQ.dp g_g141) .nil))), (.tup h147 (.cons (FQ.dp (FQ.cast g_r143 e150)) (.cons (FQ.dp (FQ.cast g_r145 e149)) .nil))), rfl, rfl, _, rfl, ?_⟩
    refine iteF ?_
    replace g_g105 := (Kw.Same.tup s147 (Kw.Same.tup s145 (Kw.Same.tup s143 (Kw.Same.tup s141 (Kw.Same.tup s139 (Kw.Same.tup s137 g_g105))))))
    replace g_l105 := (Kw.Same.tup s147 (Kw.Same.tup s145 (Kw.Same.tup s143 (Kw.Same.tup s141 (Kw.Same.tup s139 (Kw.Same.tup s137 (Kw.Same.tup s135 (Kw.Same.tup s133 g_l105))))))))
    refine ⟨_, rfl, _, rfl, _, _, _, _, rfl, g_g105, (FB.mono d_g105 (by decide)), g_l105, (FB.mono d_l105 (by decide)), fun p_r151 H151 s151 g_r151 => ?_⟩
    have hB152 := s151 _ _ hB148
    have d_r151 : FB 539 (((mixQ v2104 v1104 m2104 m1104)) - ((mixQ v1104 v2104 m1104 m2104))) := (FB.mono (FB.sub d_g105 d_l105) (by decide))
    replace h_o1104 := (Kw.Same.tup s151 (Kw.Same.tup s147 (Kw.Same.tup s145 (Kw.Same.tup s143 h_o1104))))
    replace h_o2104 := (Kw.Same.tup s151 (Kw.Same.tup s147 (Kw.Same.tup s145 h_o2104)))
    replace g_v1104 := (Kw.Same.tup s151 (Kw.Same.tup s147 (Kw.Same.tup s145 (Kw.Same.tup s143 g_v1104))))
    replace g_v2104 := (Kw.Same.tup s151 (Kw.Same.tup s147 (Kw.Same.tup s145 g_v2104)))
    refine ⟨_, rfl, p_o1104, _, _, _, rfl, rfl, h_o1104, rfl, _, rfl, p_o2104, _, _, _, rfl, rfl, h_o2104, rfl, _, _, _, _, rfl, g_v1104, (FB.mono d_v1104 (by decide)), g_v2104, (FB.mono d_v2104 (by decide)), fun p_r153 H153 s153 g_r153 => ?_⟩
    have hB154 := s153 _ _ hB152
    have d_r153 : FB 141 (v1104 - v2104) := (FB.mono (FB.sub d_v1104 d_v2104) (by decide))
    replace g_r151 := (Kw.Same.tup s153 g_r151)
    have e155 : ((v1104 - v2104) : Rat) = (((mixQ v2104 v1104 m2104 m1104)) - ((mixQ v1104 v2104 m1104 m2104))) := by have z := q_wne (m := m1104) (w := m2104) (by omega) (by omega); simp only [mixQ_eq]; grind
    refine ⟨_, (FQ.dp g_r151), (FQ.dp (FQ.cast g_r153 e155)), rfl, rfl, _, rfl, ?_⟩
    refine iteF ?_
    refine ⟨_, rfl, _, rfl, _, rfl, _, _, _, rfl, hB154, (by decide +kernel), ((Bd.small (i := (9 : Int)) (by decide) (by decide)).mono (by decide)), fun d156 n156 H156 lo156 hi156 s156 hb156 => ?_⟩
    replace h_o1104 := (But.tup s156 hB154 (Kw.Same.tup s153 h_o1104))
    replace g_x1104 := (But.tup s156 hB154 (Kw.Same.tup s153 (Kw.Same.tup s151 (Kw.Same.tup s147 (Kw.Same.tup s145 (Kw.Same.tup s143 (Kw.Same.tup s141 (Kw.Same.tup s139 (Kw.Same.tup s137 (Kw.Same.tup s135 g_x1104))))))))))
    replace g_v1104 := (But.tup s156 hB154 (Kw.Same.tup s153 g_v1104))
    replace h_o2104 := (But.tup s156 hB154 (Kw.Same.tup s153 h_o2104))
    replace g_x2104 := (But.tup s156 hB154 (Kw.Same.tup s153 (Kw.Same.tup s151 (Kw.Same.tup s147 (Kw.Same.tup s145 (Kw.Same.tup s143 (Kw.Same.tup s141 (Kw.Same.tup s139 g_x2104))))))))
    replace g_v2104 := (But.tup s156 hB154 (Kw.Same.tup s153 g_v2104))
    refine ⟨_, _, rfl, rfl, _, _, _, _, _, _, _, _, _, _, _, _, _, rfl, h_o1104, g_x1104, g_v1104, (FB.mono d_x1104 (by decide)), (FB.mono d_v1104 (by decide)), (by omega), (by omega), h_o2104, g_x2104, g_v2104, (FB.mono d_x2104 (by decide)), (FB.mono d_v2104 (by decide)), (by omega), (by omega), (by omega), (by omega), fun H157 s157 => ?_⟩
    have hB158 := s157 _ _ hb156
    refine ⟨_, rfl, ?_⟩
    refine iteF ?_
    exact ⟨_, _, _, _, _, _, _, _, rfl, sm.trans (But.fresh hb0 ((But.of sb).trans (s104.trans ((But.of s105).trans ((But.of s107).trans ((But.of s109).trans ((But.of s111).trans ((But.of s113).trans ((But.of s115).trans ((But.of s117).trans ((But.of s120).trans ((But.of s122).trans ((But.of s124).trans ((But.of s127).trans ((But.of s129).trans ((But.of s133).trans ((But.of s135).trans ((But.of s137).trans ((But.of s139).trans ((But.of s141).trans ((But.of s143).trans ((But.of s145).trans ((But.of s147).trans ((But.of s151).trans ((But.of s153).trans (s156.trans (But.of s157)))))))))))))))))))))))))))⟩
  · rintro σ0 H0 ⟨r96, r97, r98, r99, r100, r101, r102, r103, rfl, sm⟩
    exact fin _
end
theorem all_mk {P : Program} {w : World} {K : PySem.W.Frag} {h : Heap} {mg : Str → Option Value} (X : K.In h) (G : h.Ns mainGlobals mg)
    {f0 f1 f2 f3 f4 f5 f6 f7 f8 f9 f10 f11 f12 f13 f14 f15 f16 f17 f18 f19 f20 f21 f22 f23 f24 f25 f26 d2 : Addr}
    {oc0 kV0 dc0 pm0 cd0 ct0 oc1 kV1 dc1 pm1 cd1 ct1 oc2 kV2 dc2 pm2 cd2 ct2 oc3 kV3 dc3 pm3 cd3 ct3 oc4 kV4 dc4 pm4 cd4 ct4 oc5 kV5 dc5 pm5 cd5 ct5 oc6 kV6 dc6 pm6 cd6 ct6 oc7 kV7 dc7 pm7 cd7 ct7 oc8 kV8 dc8 pm8 cd8 ct8 oc9 kV9 dc9 pm9 cd9 ct9 oc10 kV10 dc10 pm10 cd10 ct10 oc11 kV11 dc11 pm11 cd11 ct11 oc12 kV12 dc12 pm12 cd12 ct12 oc13 kV13 dc13 pm13 cd13 ct13 oc14 kV14 dc14 pm14 cd14 ct14 oc15 kV15 dc15 pm15 cd15 ct15 oc16 kV16 dc16 pm16 cd16 ct16 oc17 kV17 dc17 pm17 cd17 ct17 oc18 kV18 dc18 pm18 cd18 ct18 oc19 kV19 dc19 pm19 cd19 ct19 oc20 kV20 dc20 pm20 cd20 ct20 oc21 kV21 dc21 pm21 cd21 ct21 oc22 kV22 dc22 pm22 cd22 ct22 oc23 kV23 dc23 pm23 cd23 ct23 oc24 kV24 dc24 pm24 cd24 ct24 oc25 kV25 dc25 pm25 cd25 ct25 oc26 kV26 dc26 pm26 cd26 ct26 : Value}
    {od0 an0 od1 an1 od2 an2 od3 an3 od4 an4 od5 an5 od6 an6 od7 an7 od8 an8 od9 an9 od10 an10 od11 an11 od12 an12 od13 an13 od14 an14 od15 an15 od16 an16 od17 an17 od18 an18 od19 an19 od20 an20 od21 an21 od22 an22 od23 an23 od24 an24 od25 an25 od26 an26 : Option Addr}
    {sl0 sl1 sl2 sl3 sl4 sl5 sl6 sl7 sl8 sl9 sl10 sl11 sl12 sl13 sl14 sl15 sl16 sl17 sl18 sl19 sl20 sl21 sl22 sl23 sl24 sl25 sl26 : Array (Option Value)}
    {cD2 : Value} {oD2 : Option Addr} {tD2 : Tok} {nD2 : Nat} {slD2 : Array (Option Value)}
    {tk_LONG_BITS : Tok}
    {A_ALL : Addr} {oG_ALL : Option Addr} {k1_ALL k2_ALL : Tok} {nG_ALL : Nat} {slG_ALL : Array (Option Value)}
    {A_NOUGHT : Addr} {oG_NOUGHT : Option Addr} {k1_NOUGHT k2_NOUGHT : Tok} {nG_NOUGHT : Nat} {slG_NOUGHT : Array (Option Value)}
    (b_isinstance : PySem.W.nsIn K mainGlobals "isinstance" = some none)
    (b_int : PySem.W.nsIn K mainGlobals "int" = some none)
    (b_bool : PySem.W.nsIn K mainGlobals "bool" = some none)
    (b_abs : PySem.W.nsIn K mainGlobals "abs" = some none)
    (b_len : PySem.W.nsIn K mainGlobals "len" = some none)
    (b_divmod : PySem.W.nsIn K mainGlobals "divmod" = some none)
    (b_range : PySem.W.nsIn K mainGlobals "range" = some none)
    (b_max : PySem.W.nsIn K mainGlobals "max" = some none)
    (b_min : PySem.W.nsIn K mainGlobals "min" = some none)
    (i_LONG_BITS : PySem.W.nsIn K mainGlobals "LONG_BITS" = some (some (.int 4000 tk_LONG_BITS)))
    (c_ALL : PySem.W.nsIn K mainGlobals "ALL" = some (some (.ref A_ALL)))
    (z_ALL : K.lookup A_ALL = some ⟨.type "tuple", oG_ALL, .seq #[.int 1 k1_ALL, .int 1 k2_ALL] nG_ALL, slG_ALL⟩)
    (c_NOUGHT : PySem.W.nsIn K mainGlobals "NOUGHT" = some (some (.ref A_NOUGHT)))
    (z_NOUGHT : K.lookup A_NOUGHT = some ⟨.type "tuple", oG_NOUGHT, .seq #[.int 0 k1_NOUGHT, .int 1 k2_NOUGHT] nG_NOUGHT, slG_NOUGHT⟩)
    (a0 : PySem.W.nsIn K mainGlobals "is_whole" = some (some (.ref f0)))
    (l0 : K.lookup f0 = some ⟨oc0, od0, .func (PySem.W.fnOf "is_whole" "is_whole" (defArgs (top 6)) (defBody (top 6)) (defScope (top 6)) .none kV0 dc0 pm0 an0 cd0 ct0), sl0⟩)
    (q0 : PySem.W.codeIn K cd0 "is_whole" = true)
    (k0 : PySem.W.keepIn K (.ref f0) = true)
    (a1 : PySem.W.nsIn K mainGlobals "common_divisor" = some (some (.ref f1)))
    (l1 : K.lookup f1 = some ⟨oc1, od1, .func (PySem.W.fnOf "common_divisor" "common_divisor" (defArgs (top 8)) (defBody (top 8)) (defScope (top 8)) .none kV1 dc1 pm1 an1 cd1 ct1), sl1⟩)
    (q1 : PySem.W.codeIn K cd1 "common_divisor" = true)
    (k1 : PySem.W.keepIn K (.ref f1) = true)
    (a2 : PySem.W.nsIn K mainGlobals "fraction" = some (some (.ref f2)))
    (l2 : K.lookup f2 = some ⟨oc2, od2, .func (PySem.W.fnOf "fraction" "fraction" (defArgs (top 9)) (defBody (top 9)) (defScope (top 9)) (.ref d2) kV2 dc2 pm2 an2 cd2 ct2), sl2⟩)
    (q2 : PySem.W.codeIn K cd2 "fraction" = true)
    (k2 : PySem.W.keepIn K (.ref f2) = true)
    (g2 : K.lookup d2 = some ⟨cD2, oD2, .seq #[.int 1 tD2] nD2, slD2⟩)
    (a3 : PySem.W.nsIn K mainGlobals "plus" = some (some (.ref f3)))
    (l3 : K.lookup f3 = some ⟨oc3, od3, .func (PySem.W.fnOf "plus" "plus" (defArgs (top 10)) (defBody (top 10)) (defScope (top 10)) .none kV3 dc3 pm3 an3 cd3 ct3), sl3⟩)
    (q3 : PySem.W.codeIn K cd3 "plus" = true)
    (k3 : PySem.W.keepIn K (.ref f3) = true)
    (a4 : PySem.W.nsIn K mainGlobals "times" = some (some (.ref f4)))
    (l4 : K.lookup f4 = some ⟨oc4, od4, .func (PySem.W.fnOf "times" "times" (defArgs (top 11)) (defBody (top 11)) (defScope (top 11)) .none kV4 dc4 pm4 an4 cd4 ct4), sl4⟩)
    (q4 : PySem.W.codeIn K cd4 "times" = true)
    (k4 : PySem.W.keepIn K (.ref f4) = true)
    (a5 : PySem.W.nsIn K mainGlobals "mixed" = some (some (.ref f5)))
    (l5 : K.lookup f5 = some ⟨oc5, od5, .func (PySem.W.fnOf "mixed" "mixed" (defArgs (top 15)) (defBody (top 15)) (defScope (top 15)) .none kV5 dc5 pm5 an5 cd5 ct5), sl5⟩)
    (q5 : PySem.W.codeIn K cd5 "mixed" = true)
    (k5 : PySem.W.keepIn K (.ref f5) = true)
    (a6 : PySem.W.nsIn K mainGlobals "speeds_with" = some (some (.ref f6)))
    (l6 : K.lookup f6 = some ⟨oc6, od6, .func (PySem.W.fnOf "speeds_with" "speeds_with" (defArgs (top 17)) (defBody (top 17)) (defScope (top 17)) .none kV6 dc6 pm6 an6 cd6 ct6), sl6⟩)
    (q6 : PySem.W.codeIn K cd6 "speeds_with" = true)
    (k6 : PySem.W.keepIn K (.ref f6) = true)
    (a7 : PySem.W.nsIn K mainGlobals "speeds_after" = some (some (.ref f7)))
    (l7 : K.lookup f7 = some ⟨oc7, od7, .func (PySem.W.fnOf "speeds_after" "speeds_after" (defArgs (top 18)) (defBody (top 18)) (defScope (top 18)) .none kV7 dc7 pm7 an7 cd7 ct7), sl7⟩)
    (q7 : PySem.W.codeIn K cd7 "speeds_after" = true)
    (k7 : PySem.W.keepIn K (.ref f7) = true)
    (a8 : PySem.W.nsIn K mainGlobals "push_of" = some (some (.ref f8)))
    (l8 : K.lookup f8 = some ⟨oc8, od8, .func (PySem.W.fnOf "push_of" "push_of" (defArgs (top 19)) (defBody (top 19)) (defScope (top 19)) .none kV8 dc8 pm8 an8 cd8 ct8), sl8⟩)
    (q8 : PySem.W.codeIn K cd8 "push_of" = true)
    (k8 : PySem.W.keepIn K (.ref f8) = true)
    (a9 : PySem.W.nsIn K mainGlobals "total" = some (some (.ref f9)))
    (l9 : K.lookup f9 = some ⟨oc9, od9, .func (PySem.W.fnOf "total" "total" (defArgs (top 20)) (defBody (top 20)) (defScope (top 20)) .none kV9 dc9 pm9 an9 cd9 ct9), sl9⟩)
    (q9 : PySem.W.codeIn K cd9 "total" = true)
    (k9 : PySem.W.keepIn K (.ref f9) = true)
    (a10 : PySem.W.nsIn K mainGlobals "push" = some (some (.ref f10)))
    (l10 : K.lookup f10 = some ⟨oc10, od10, .func (PySem.W.fnOf "push" "push" (defArgs (top 21)) (defBody (top 21)) (defScope (top 21)) .none kV10 dc10 pm10 an10 cd10 ct10), sl10⟩)
    (q10 : PySem.W.codeIn K cd10 "push" = true)
    (k10 : PySem.W.keepIn K (.ref f10) = true)
    (a11 : PySem.W.nsIn K mainGlobals "might" = some (some (.ref f11)))
    (l11 : K.lookup f11 = some ⟨oc11, od11, .func (PySem.W.fnOf "might" "might" (defArgs (top 22)) (defBody (top 22)) (defScope (top 22)) .none kV11 dc11 pm11 an11 cd11 ct11), sl11⟩)
    (q11 : PySem.W.codeIn K cd11 "might" = true)
    (k11 : PySem.W.keepIn K (.ref f11) = true)
    (a12 : PySem.W.nsIn K mainGlobals "_law_cell" = some (some (.ref f12)))
    (l12 : K.lookup f12 = some ⟨oc12, od12, .func (PySem.W.fnOf "_law_cell" "_law_cell" (defArgs (top 24)) (defBody (top 24)) (defScope (top 24)) .none kV12 dc12 pm12 an12 cd12 ct12), sl12⟩)
    (q12 : PySem.W.codeIn K cd12 "_law_cell" = true)
    (k12 : PySem.W.keepIn K (.ref f12) = true)
    (a13 : PySem.W.nsIn K mainGlobals "_law_mix" = some (some (.ref f13)))
    (l13 : K.lookup f13 = some ⟨oc13, od13, .func (PySem.W.fnOf "_law_mix" "_law_mix" (defArgs (top 25)) (defBody (top 25)) (defScope (top 25)) .none kV13 dc13 pm13 an13 cd13 ct13), sl13⟩)
    (q13 : PySem.W.codeIn K cd13 "_law_mix" = true)
    (k13 : PySem.W.keepIn K (.ref f13) = true)
    (a14 : PySem.W.nsIn K mainGlobals "_law_box" = some (some (.ref f14)))
    (l14 : K.lookup f14 = some ⟨oc14, od14, .func (PySem.W.fnOf "_law_box" "_law_box" (defArgs (top 26)) (defBody (top 26)) (defScope (top 26)) .none kV14 dc14 pm14 an14 cd14 ct14), sl14⟩)
    (q14 : PySem.W.codeIn K cd14 "_law_box" = true)
    (k14 : PySem.W.keepIn K (.ref f14) = true)
    (a15 : PySem.W.nsIn K mainGlobals "_law_take" = some (some (.ref f15)))
    (l15 : K.lookup f15 = some ⟨oc15, od15, .func (PySem.W.fnOf "_law_take" "_law_take" (defArgs (top 27)) (defBody (top 27)) (defScope (top 27)) .none kV15 dc15 pm15 an15 cd15 ct15), sl15⟩)
    (q15 : PySem.W.codeIn K cd15 "_law_take" = true)
    (k15 : PySem.W.keepIn K (.ref f15) = true)
    (a16 : PySem.W.nsIn K mainGlobals "_law_fit" = some (some (.ref f16)))
    (l16 : K.lookup f16 = some ⟨oc16, od16, .func (PySem.W.fnOf "_law_fit" "_law_fit" (defArgs (top 28)) (defBody (top 28)) (defScope (top 28)) .none kV16 dc16 pm16 an16 cd16 ct16), sl16⟩)
    (q16 : PySem.W.codeIn K cd16 "_law_fit" = true)
    (k16 : PySem.W.keepIn K (.ref f16) = true)
    (a17 : PySem.W.nsIn K mainGlobals "_law_plus" = some (some (.ref f17)))
    (l17 : K.lookup f17 = some ⟨oc17, od17, .func (PySem.W.fnOf "_law_plus" "_law_plus" (defArgs (top 29)) (defBody (top 29)) (defScope (top 29)) .none kV17 dc17 pm17 an17 cd17 ct17), sl17⟩)
    (q17 : PySem.W.codeIn K cd17 "_law_plus" = true)
    (k17 : PySem.W.keepIn K (.ref f17) = true)
    (a18 : PySem.W.nsIn K mainGlobals "_law_minus" = some (some (.ref f18)))
    (l18 : K.lookup f18 = some ⟨oc18, od18, .func (PySem.W.fnOf "_law_minus" "_law_minus" (defArgs (top 30)) (defBody (top 30)) (defScope (top 30)) .none kV18 dc18 pm18 an18 cd18 ct18), sl18⟩)
    (q18 : PySem.W.codeIn K cd18 "_law_minus" = true)
    (k18 : PySem.W.keepIn K (.ref f18) = true)
    (a19 : PySem.W.nsIn K mainGlobals "_law_times" = some (some (.ref f19)))
    (l19 : K.lookup f19 = some ⟨oc19, od19, .func (PySem.W.fnOf "_law_times" "_law_times" (defArgs (top 31)) (defBody (top 31)) (defScope (top 31)) .none kV19 dc19 pm19 an19 cd19 ct19), sl19⟩)
    (q19 : PySem.W.codeIn K cd19 "_law_times" = true)
    (k19 : PySem.W.keepIn K (.ref f19) = true)
    (a20 : PySem.W.nsIn K mainGlobals "_law_drawn" = some (some (.ref f20)))
    (l20 : K.lookup f20 = some ⟨oc20, od20, .func (PySem.W.fnOf "_law_drawn" "_law_drawn" (defArgs (top 32)) (defBody (top 32)) (defScope (top 32)) .none kV20 dc20 pm20 an20 cd20 ct20), sl20⟩)
    (q20 : PySem.W.codeIn K cd20 "_law_drawn" = true)
    (k20 : PySem.W.keepIn K (.ref f20) = true)
    (a21 : PySem.W.nsIn K mainGlobals "_law_weight" = some (some (.ref f21)))
    (l21 : K.lookup f21 = some ⟨oc21, od21, .func (PySem.W.fnOf "_law_weight" "_law_weight" (defArgs (top 33)) (defBody (top 33)) (defScope (top 33)) .none kV21 dc21 pm21 an21 cd21 ct21), sl21⟩)
    (q21 : PySem.W.codeIn K cd21 "_law_weight" = true)
    (k21 : PySem.W.keepIn K (.ref f21) = true)
    (a22 : PySem.W.nsIn K mainGlobals "_law_two" = some (some (.ref f22)))
    (l22 : K.lookup f22 = some ⟨oc22, od22, .func (PySem.W.fnOf "_law_two" "_law_two" (defArgs (top 34)) (defBody (top 34)) (defScope (top 34)) .none kV22 dc22 pm22 an22 cd22 ct22), sl22⟩)
    (q22 : PySem.W.codeIn K cd22 "_law_two" = true)
    (k22 : PySem.W.keepIn K (.ref f22) = true)
    (a23 : PySem.W.nsIn K mainGlobals "_law_with" = some (some (.ref f23)))
    (l23 : K.lookup f23 = some ⟨oc23, od23, .func (PySem.W.fnOf "_law_with" "_law_with" (defArgs (top 35)) (defBody (top 35)) (defScope (top 35)) .none kV23 dc23 pm23 an23 cd23 ct23), sl23⟩)
    (q23 : PySem.W.codeIn K cd23 "_law_with" = true)
    (k23 : PySem.W.keepIn K (.ref f23) = true)
    (a24 : PySem.W.nsIn K mainGlobals "_law_about" = some (some (.ref f24)))
    (l24 : K.lookup f24 = some ⟨oc24, od24, .func (PySem.W.fnOf "_law_about" "_law_about" (defArgs (top 36)) (defBody (top 36)) (defScope (top 36)) .none kV24 dc24 pm24 an24 cd24 ct24), sl24⟩)
    (q24 : PySem.W.codeIn K cd24 "_law_about" = true)
    (k24 : PySem.W.keepIn K (.ref f24) = true)
    (a25 : PySem.W.nsIn K mainGlobals "_law_greater_right" = some (some (.ref f25)))
    (l25 : K.lookup f25 = some ⟨oc25, od25, .func (PySem.W.fnOf "_law_greater_right" "_law_greater_right" (defArgs (top 37)) (defBody (top 37)) (defScope (top 37)) .none kV25 dc25 pm25 an25 cd25 ct25), sl25⟩)
    (q25 : PySem.W.codeIn K cd25 "_law_greater_right" = true)
    (k25 : PySem.W.keepIn K (.ref f25) = true)
    (a26 : PySem.W.nsIn K mainGlobals "law" = some (some (.ref f26)))
    (l26 : K.lookup f26 = some ⟨oc26, od26, .func (PySem.W.fnOf "law" "law" (defArgs (top 38)) (defBody (top 38)) (defScope (top 38)) .none kV26 dc26 pm26 an26 cd26 ct26), sl26⟩)
    (q26 : PySem.W.codeIn K cd26 "law" = true)
    (k26 : PySem.W.keepIn K (.ref f26) = true) :
    ∃ fa, mg "law" = some (.ref fa) ∧ ∃ fd : FuncData, (∀ (s : Shared) (u : Value), BindsTo s fd ⟨[u], []⟩ [("_law_script", u)]) ∧ ∀ base : Heap, K.In base → base.Ns mainGlobals mg → FnOk P w K mg base (CXE P w) 7 fa fd ["_law_script"] (spLaw K) := by
  have T : Tx K mg  := ⟨PySem.W.mg_none_of X G b_isinstance, PySem.W.mg_none_of X G b_int, PySem.W.mg_none_of X G b_bool, PySem.W.mg_none_of X G b_abs, PySem.W.mg_none_of X G b_len, PySem.W.mg_none_of X G b_divmod, PySem.W.mg_none_of X G b_range, PySem.W.mg_none_of X G b_max, PySem.W.mg_none_of X G b_min, ⟨_, PySem.W.mg_of X G i_LONG_BITS⟩, ⟨_, PySem.W.mg_of X G c_ALL, sqt_const z_ALL⟩, ⟨_, PySem.W.mg_of X G c_NOUGHT, sqt_const z_NOUGHT⟩⟩
  have D0 := df_mk (ps := ["thing"]) X G a0 l0 q0 k0 fun us hl => match us, hl with | [_], _ => rfl
  have D1 := df_mk (ps := ["one", "other"]) X G a1 l1 q1 k1 fun us hl => match us, hl with | [_, _], _ => rfl
  have D2 := df_mkD (ps := ["top", "bottom"]) X G a2 l2 q2 k2 g2 fun us hl => match us, hl with | [_, _], _ => ⟨_, rfl, rfl⟩
  have D3 := df_mk (ps := ["one", "other"]) X G a3 l3 q3 k3 fun us hl => match us, hl with | [_, _], _ => rfl
  have D4 := df_mk (ps := ["one", "other"]) X G a4 l4 q4 k4 fun us hl => match us, hl with | [_, _], _ => rfl
  have D5 := df_mk (ps := ["own", "far", "weight", "mass", "share"]) X G a5 l5 q5 k5 fun us hl => match us, hl with | [_, _, _, _, _], _ => rfl
  have D6 := df_mk (ps := ["one", "other", "share"]) X G a6 l6 q6 k6 fun us hl => match us, hl with | [_, _, _], _ => rfl
  have D7 := df_mk (ps := ["one", "other"]) X G a7 l7 q7 k7 fun us hl => match us, hl with | [_, _], _ => rfl
  have D8 := df_mk (ps := ["body"]) X G a8 l8 q8 k8 fun us hl => match us, hl with | [_], _ => rfl
  have D9 := df_mk (ps := ["numbers"]) X G a9 l9 q9 k9 fun us hl => match us, hl with | [_], _ => rfl
  have D10 := df_mk (ps := ["bodies"]) X G a10 l10 q10 k10 fun us hl => match us, hl with | [_], _ => rfl
  have D11 := df_mk (ps := ["bodies"]) X G a11 l11 q11 k11 fun us hl => match us, hl with | [_], _ => rfl
  have D12 := df_mk (ps := ["_law_script", "_law_k"]) X G a12 l12 q12 k12 fun us hl => match us, hl with | [_, _], _ => rfl
  have D13 := df_mk (ps := ["_law_cell_here", "_law_k"]) X G a13 l13 q13 k13 fun us hl => match us, hl with | [_, _], _ => rfl
  have D14 := df_mk (ps := ["_law_script", "_law_k"]) X G a14 l14 q14 k14 fun us hl => match us, hl with | [_, _], _ => rfl
  have D15 := df_mk (ps := ["_law_box_here", "_law_many"]) X G a15 l15 q15 k15 fun us hl => match us, hl with | [_, _], _ => rfl
  have D16 := df_mk (ps := ["_law_top", "_law_bottom"]) X G a16 l16 q16 k16 fun us hl => match us, hl with | [_, _], _ => rfl
  have D17 := df_mk (ps := ["_law_one", "_law_other"]) X G a17 l17 q17 k17 fun us hl => match us, hl with | [_, _], _ => rfl
  have D18 := df_mk (ps := ["_law_one", "_law_other"]) X G a18 l18 q18 k18 fun us hl => match us, hl with | [_, _], _ => rfl
  have D19 := df_mk (ps := ["_law_one", "_law_other"]) X G a19 l19 q19 k19 fun us hl => match us, hl with | [_, _], _ => rfl
  have D20 := df_mk (ps := ["_law_box_here"]) X G a20 l20 q20 k20 fun us hl => match us, hl with | [_], _ => rfl
  have D21 := df_mk (ps := ["_law_box_here"]) X G a21 l21 q21 k21 fun us hl => match us, hl with | [_], _ => rfl
  have D22 := df_mk (ps := ["_law_box_here"]) X G a22 l22 q22 k22 fun us hl => match us, hl with | [_], _ => rfl
  have D23 := df_mk (ps := ["_law_one", "_law_speed"]) X G a23 l23 q23 k23 fun us hl => match us, hl with | [_, _], _ => rfl
  have D24 := df_mk (ps := ["_law_speed"]) X G a24 l24 q24 k24 fun us hl => match us, hl with | [_], _ => rfl
  have D25 := df_mk (ps := ["_law_one", "_law_other", "_law_times_here"]) X G a25 l25 q25 k25 fun us hl => match us, hl with | [_, _, _], _ => rfl
  have D26 := df_mk (ps := ["_law_script"]) X G a26 l26 q26 k26 fun us hl => match us, hl with | [_], _ => rfl
  refine law_end X G a26 l26 (fun _ => rfl) fun base kb nb => ?_
  have F0 := ok_is_whole (P := P) (w := w) (base := base) D0 T
  have F1 := ok_common_divisor (P := P) (w := w) (base := base) D1 T
  have F2 := ok_fraction (P := P) (w := w) (base := base) D2 T F0 F1
  have F3 := ok_plus (P := P) (w := w) (base := base) D3 T F1
  have F4 := ok_times (P := P) (w := w) (base := base) D4 T F1
  have F5 := ok_mixed (P := P) (w := w) (base := base) D5 T F2 F4 F3
  have F6 := ok_speeds_with (P := P) (w := w) (base := base) D6 T F5
  have F7 := ok_speeds_after (P := P) (w := w) (base := base) D7 T F6
  have F8 := ok_push_of (P := P) (w := w) (base := base) D8 T F4
  have F9 := ok_total (P := P) (w := w) (base := base) D9 T F3
  have F10 := ok_push (P := P) (w := w) (base := base) D10 T F8 F9
  have F11 := ok_might (P := P) (w := w) (base := base) D11 T F8 F4 F9
  have F12 := ok_law_cell (P := P) (w := w) (base := base) D12 T
  have F13 := ok_law_mix (P := P) (w := w) (base := base) D13 T
  have F14 := ok_law_box (P := P) (w := w) (base := base) D14 T F12 F13
  have F15 := ok_law_take (P := P) (w := w) (base := base) D15 T
  have F16 := ok_law_fit (P := P) (w := w) (base := base) D16 T
  have F17 := ok_law_plus (P := P) (w := w) (base := base) D17 T F16
  have F18 := ok_law_minus (P := P) (w := w) (base := base) D18 T F16
  have F19 := ok_law_times (P := P) (w := w) (base := base) D19 T F16
  have F20 := ok_law_drawn (P := P) (w := w) (base := base) D20 T F15 F16
  have F21 := ok_law_weight (P := P) (w := w) (base := base) D21 T F15
  have F22 := ok_law_two (P := P) (w := w) (base := base) D22 T F20 F15 F16 F21 F17
  have F23 := ok_law_with (P := P) (w := w) (base := base) D23 T
  have F24 := ok_law_about (P := P) (w := w) (base := base) D24 T
  have F25 := ok_law_greater_right (P := P) (w := w) (base := base) D25 T F7 F19 F23
  have F26 := ok_law (P := P) (w := w) (base := base) D26 T F14 F22 F7 F23 F10 F11 F24 F18 F15 F25
  exact F26
end Prf
open PySem PySem.W PyProof.Rows
set_option maxRecDepth 100000 in
set_option maxHeartbeats 0 in
theorem PySem.Challenge.cw_knockwright_k16_whole_parting_turned_bac_holds : PySem.Challenge.rw_knockwright_k16_whole_parting_turned_bac.Holds := by
  w_on; o_law; k_head; (case hw => w_witness2)
  k_fill
  refine Kw.walk_kw (pn := "_law_script") (l := PySem.Challenge.rw_knockwright_k16_whole_parting_turned_bac) (k := 7) rfl rfl ⟨rfl, by decide, by decide⟩ (fun w h Y => PySem.W.kIn_of Y) rfl ?F
  case F =>
    intro w mg h KX G
    refine' Prf.all_mk KX G ?b_isinstance ?b_int ?b_bool ?b_abs ?b_len ?b_divmod ?b_range ?b_max ?b_min ?i_LONG_BITS ?c_ALL ?z_ALL ?c_NOUGHT ?z_NOUGHT ?a0 ?l0 ?q0 ?k0 ?a1 ?l1 ?q1 ?k1 ?a2 ?l2 ?q2 ?k2 ?g2 ?a3 ?l3 ?q3 ?k3 ?a4 ?l4 ?q4 ?k4 ?a5 ?l5 ?q5 ?k5 ?a6 ?l6 ?q6 ?k6 ?a7 ?l7 ?q7 ?k7 ?a8 ?l8 ?q8 ?k8 ?a9 ?l9 ?q9 ?k9 ?a10 ?l10 ?q10 ?k10 ?a11 ?l11 ?q11 ?k11 ?a12 ?l12 ?q12 ?k12 ?a13 ?l13 ?q13 ?k13 ?a14 ?l14 ?q14 ?k14 ?a15 ?l15 ?q15 ?k15 ?a16 ?l16 ?q16 ?k16 ?a17 ?l17 ?q17 ?k17 ?a18 ?l18 ?q18 ?k18 ?a19 ?l19 ?q19 ?k19 ?a20 ?l20 ?q20 ?k20 ?a21 ?l21 ?q21 ?k21 ?a22 ?l22 ?q22 ?k22 ?a23 ?l23 ?q23 ?k23 ?a24 ?l24 ?q24 ?k24 ?a25 ?l25 ?q25 ?k25 ?a26 ?l26 ?q26 ?k26
    (case b_isinstance => k_is)
    (case b_int => k_is)
    (case b_bool => k_is)
    (case b_abs => k_is)
    (case b_len => k_is)
    (case b_divmod => k_is)
    (case b_range => k_is)
    (case b_max => k_is)
    (case b_min => k_is)
    (case i_LONG_BITS => k_is)
    (case c_ALL => k_is)
    (case z_ALL => k_is)
    (case c_NOUGHT => k_is)
    (case z_NOUGHT => k_is)
    (case a0 => k_is)
    (case l0 => k_is)
    (case q0 => k_is)
    (case k0 => k_is)
    (case a1 => k_is)
    (case l1 => k_is)
    (case q1 => k_is)
    (case k1 => k_is)
    (case a2 => k_is)
    (case l2 => k_is)
    (case q2 => k_is)
    (case k2 => k_is)
    (case g2 => k_is)
    (case a3 => k_is)
    (case l3 => k_is)
    (case q3 => k_is)
    (case k3 => k_is)
    (case a4 => k_is)
    (case l4 => k_is)
    (case q4 => k_is)
    (case k4 => k_is)
    (case a5 => k_is)
    (case l5 => k_is)
    (case q5 => k_is)
    (case k5 => k_is)
    (case a6 => k_is)
    (case l6 => k_is)
    (case q6 => k_is)
    (case k6 => k_is)
    (case a7 => k_is)
    (case l7 => k_is)
    (case q7 => k_is)
    (case k7 => k_is)
    (case a8 => k_is)
    (case l8 => k_is)
    (case q8 => k_is)
    (case k8 => k_is)
    (case a9 => k_is)
    (case l9 => k_is)
    (case q9 => k_is)
    (case k9 => k_is)
    (case a10 => k_is)
    (case l10 => k_is)
    (case q10 => k_is)
    (case k10 => k_is)
    (case a11 => k_is)
    (case l11 => k_is)
    (case q11 => k_is)
    (case k11 => k_is)
    (case a12 => k_is)
    (case l12 => k_is)
    (case q12 => k_is)
    (case k12 => k_is)
    (case a13 => k_is)
    (case l13 => k_is)
    (case q13 => k_is)
    (case k13 => k_is)
    (case a14 => k_is)
    (case l14 => k_is)
    (case q14 => k_is)
    (case k14 => k_is)
    (case a15 => k_is)
    (case l15 => k_is)
    (case q15 => k_is)
    (case k15 => k_is)
    (case a16 => k_is)
    (case l16 => k_is)
    (case q16 => k_is)
    (case k16 => k_is)
    (case a17 => k_is)
    (case l17 => k_is)
    (case q17 => k_is)
    (case k17 => k_is)
    (case a18 => k_is)
    (case l18 => k_is)
    (case q18 => k_is)
    (case k18 => k_is)
    (case a19 => k_is)
    (case l19 => k_is)
    (case q19 => k_is)
    (case k19 => k_is)
    (case a20 => k_is)
    (case l20 => k_is)
    (case q20 => k_is)
    (case k20 => k_is)
    (case a21 => k_is)
    (case l21 => k_is)
    (case q21 => k_is)
    (case k21 => k_is)
    (case a22 => k_is)
    (case l22 => k_is)
    (case q22 => k_is)
    (case k22 => k_is)
    (case a23 => k_is)
    (case l23 => k_is)
    (case q23 => k_is)
    (case k23 => k_is)
    (case a24 => k_is)
    (case l24 => k_is)
    (case q24 => k_is)
    (case k24 => k_is)
    (case a25 => k_is)
    (case l25 => k_is)
    (case q25 => k_is)
    (case k25 => k_is)
    (case a26 => k_is)
    (case l26 => k_is)
    (case q26 => k_is)
    (case k26 => k_is)
