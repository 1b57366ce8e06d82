import PyProof.Rows.All
import Wide.All
import OpenK.AllK
import Wide.FinOn
import Lean
import PyProof.EqAt
import PyProof.EqKinds
import PyProof.TupleCall
import PyProof.ExcBaseAll.ValueError
import PyProof.P3Eq
import PyProof.NeData
import PyProof.DictTable
import KE.KEqDict
import PyProof.EnumFor
import PyProof.EnumMake
import PyProof.EnumStmt
import PyProof.NsDelKeeps
import KE.KListMore
import PyProof.Rows.SortWalk
import PyProof.ListRange
import PyProof.P3In
import PyProof.CollectIter
import PyProof.TupleOfStr
import KE.KIntText
import PyProof.StrLawsTight
import PyProof.Rows.StrSplitCount
import PyProof.JoinWalk
import OpenK.KTop
import PyProof.StrLawsFirst
import PyProof.MeetsStr
import PyProof.StrLawsChain
import PySem.Challenge.RW_knockwright_k73_one_box_alone
noncomputable section
open PySem.W (instObj methodObj lookIn plainGet hasDictIn findIn plainGet_of isFn plainOver takerIn makesIn emptyDict keepIn kitOne kia_one callWith_K fnOf codeIn nsIn mg_of mg_none_of)
set_option Elab.async false
set_option linter.all false
set_option maxRecDepth 100000
namespace L2
open PySem PySem.Spec PyProof.Rows
abbrev Key:=Sum Int Str
def keyIs:Key->Value->Bool
 |.inl k,v=>Value.isInt k v
 |.inr x,v=>Value.isStrOf x v
def keyH (w:World):Key->Int
 |.inl k=>hashInt k
 |.inr x=>hashStr w x
theorem yC:∀ {k:Key} {v:Value},keyIs k v=true->(∃ i t,k=Sum.inl i/\v=Value.int i t)\/(∃ x t,k=Sum.inr x/\v=Value.str x t)
 |.inl i,v,h=>by
  obtain ⟨t,e⟩:=Value.isInt_shape (k:=i) (v:=v) h
  exact .inl ⟨i,t,rfl,e⟩
 |.inr x,v,h=>by
  obtain ⟨t,e⟩:=Value.isStrOf_shape (x:=x) (v:=v) h
  exact .inr ⟨x,t,rfl,e⟩
theorem keyIs_int (i:Int) (t:Tok):keyIs (.inl i) (.int i t)=true:=by simp [keyIs,Value.isInt]
theorem keyIs_str (x:Str) (t:Tok):keyIs (.inr x) (.str x t)=true:=by simp [keyIs,Value.isStrOf]
theorem key_ll (a b:Int):decide ((Sum.inl a:Key)=Sum.inl b)=(a == b):=by
 by_cases e:a=b
 ·subst e; simp
 ·have h:¬ (Sum.inl a:Key)=Sum.inl b:=fun q=>e (Sum.inl.inj q)
  rw [decide_eq_false h]
  exact (beq_eq_false_iff_ne.mpr e).symm
theorem key_rr (a b:Str):decide ((Sum.inr a:Key)=Sum.inr b)=decide (a=b):=by
 by_cases e:a=b
 ·subst e; simp
 ·have h:¬ (Sum.inr a:Key)=Sum.inr b:=fun q=>e (Sum.inr.inj q)
  rw [decide_eq_false h,decide_eq_false e]
theorem key_lr (a:Int) (b:Str):decide ((Sum.inl a:Key)=Sum.inr b)=false:=decide_eq_false (fun q=>nomatch q)
theorem key_rl (a:Str) (b:Int):decide ((Sum.inr a:Key)=Sum.inl b)=false:=decide_eq_false (fun q=>nomatch q)
def yE (prog:Program) (w:World):PySem.KeyKind prog w Key where
 is:=keyIs
 hash:=keyH w
 inj:=fun v a b ha hb=>by
  rcases yC ha with ⟨i,t,rfl,rfl⟩|⟨x,t,rfl,rfl⟩
  ·rcases yC hb with ⟨j,u,rfl,e⟩|⟨y,u,rfl,e⟩
   ·injection e with e1 _; rw [e1]
   ·exact nomatch e
  ·rcases yC hb with ⟨j,u,rfl,e⟩|⟨y,u,rfl,e⟩
   ·exact nomatch e
   ·injection e with e1 _; rw [e1]
 byValue:=fun k v h=>by
  rcases yC h with ⟨i,t,rfl,rfl⟩|⟨x,t,rfl,rfl⟩<;>rfl
 pyHash:=fun hv h=>by
  rcases yC hv with ⟨i,t,rfl,rfl⟩|⟨x,t,rfl,rfl⟩
  ·exact wpAny_pyHash_int h
  ·exact wpAny_pyHash_str h
 eqBool:=fun hu hv h=>by
  rcases yC hu with ⟨i,t,rfl,rfl⟩|⟨x,t,rfl,rfl⟩
  ·rcases yC hv with ⟨j,u,rfl,rfl⟩|⟨y,u,rfl,rfl⟩
   ·rw [key_ll] at h; exact wpAny_eqBool_int h
   ·rw [key_lr] at h; exact SeqAt.EqAt.int_str i t y u _ _ _ _ h
  ·rcases yC hv with ⟨j,u,rfl,rfl⟩|⟨y,u,rfl,rfl⟩
   ·rw [key_rl] at h; exact SeqAt.EqAt.str_int x t j u _ _ _ _ h
   ·rw [key_rr] at h; exact wpAny_eqBool_str h
 «strs»:=fun k x t v h=>by
  rcases yC h with ⟨i,u,rfl,e⟩|⟨y,u,rfl,e⟩
  ·exact nomatch e
  ·injection e with e1 _
   subst e1
   cases v<;>rfl
theorem mixKind_int (prog:Program) (w:World) (i:Int) (t:Tok):(yE prog w).is (.inl i) (.int i t)=true:=keyIs_int i t
theorem mixKind_str (prog:Program) (w:World) (x:Str) (t:Tok):(yE prog w).is (.inr x) (.str x t)=true:=keyIs_str x t
end L2
namespace L2
open PySem PySem.Spec PyProof.Rows
inductive V where
 |non|bl (b:Bool)|int (i:Int)|str (x:Str)|byt (b:Array UInt8)|flt (b:UInt64)|ref (a:Addr)|ty (n:String)
 deriving DecidableEq
def RelV:V->Value->Prop
 |.non,u=>u=Value.none
 |.bl b,u=>u=Value.bool b
 |.int i,u=>∃ t,u=Value.int i t
 |.str x,u=>∃ t,u=Value.str x t
 |.byt b,u=>∃ t,u=Value.bytes b t
 |.flt b,u=>∃ t,u=Value.float b t
 |.ref a,u=>u=Value.ref a
 |.ty n,u=>u=Value.type n
abbrev Vals:List V->List Value->Prop:=Paired RelV
theorem Vals.length {xs:List V} {us:List Value} (r:Vals xs us):xs.length=us.length:=Paired.length r
theorem Vals.get:∀ {xs:List V} {us:List Value} {i:Nat} {x:V},Vals xs us->xs[i]?=some x->∃ u,us[i]?=some u/\RelV x u
 |_,_,_,_,.nil,e=>by simp at e
 |_,_,0,_,.cons r _,e=>by simp at e; subst e; exact ⟨_,rfl,r⟩
 |_,_,i+1,x,.cons _ t,e=>by
  obtain ⟨u,h1,h2⟩:=Vals.get (i:=i) (x:=x) t (by simpa using e)
  exact ⟨u,by simpa using h1,h2⟩
theorem Vals.set {x:V} {u:Value} (r:RelV x u):∀ {xs:List V} {us:List Value} (i:Nat),Vals xs us->Vals (xs.set i x) (us.set i u)
 |_,_,_,.nil=>.nil
 |_,_,0,.cons _ t=>.cons r t
 |_,_,i+1,.cons q t=>.cons q (Vals.set r i t)
theorem Vals.append:∀ {xs ys:List V} {us ws:List Value},Vals xs us->Vals ys ws->Vals (xs++ys) (us++ws)
 |_,_,_,_,.nil,s=>s
 |_,_,_,_,.cons r t,s=>.cons r (Vals.append t s)
theorem Vals.take:∀ {xs:List V} {us:List Value} (n:Nat),Vals xs us->Vals (xs.take n) (us.take n)
 |_,_,0,_=>.nil
 |_,_,_+1,.nil=>.nil
 |_,_,n+1,.cons r t=>.cons r (Vals.take n t)
theorem Vals.drop:∀ {xs:List V} {us:List Value} (n:Nat),Vals xs us->Vals (xs.drop n) (us.drop n)
 |_,_,0,r=>r
 |_,_,_+1,.nil=>.nil
 |_,_,n+1,.cons _ t=>Vals.drop n t
def RelO:Option V->Option Value->Prop
 |some v,some u=>RelV v u
 |none,none=>True
 |_,_=>False
def KV {κ:Type}:List (κ × V)->List (κ × Value)->Prop:=Paired fun (p:κ × V) (q:κ × Value)=>p.1=q.1/\RelV p.2 q.2
def kV:Key->V
 |.inl i=>.int i
 |.inr x=>.str x
inductive HO where
 |lst (xs:List V)
 |tup (xs:List V)
 |dK (kvs:List (Key × V))|dT (kvs:List (List Key × V))
 |set (S:Int->Bool) (n:Nat)
 |ins (C dx:Addr) (fs:List (Str × V))
 |own (x:Addr)
 |xd (fs:List (Str × V))
 |met (f x:Addr)
 |rng (lo hi:Int)
 |frz (o:Obj) (u:HO)
 |tbl (ps:Array Value)
 |ext (φ:Heap->Prop)
abbrev Hp:=Addr->Option HO
def upd (H:Hp) (a:Addr) (o:HO):Hp:=fun b=>if b=a then some o else H b
theorem zq {H:Hp} {a:Addr} {o:HO}:upd H a o a=some o:=by unfold upd; rw [if_pos rfl]
theorem zX {H:Hp} {a b:Addr} {o:HO} (h:b≠a):upd H a o b=H b:=by unfold upd; rw [if_neg h]
theorem upd_upd {H:Hp} {a:Addr} {o u:HO}:upd (upd H a o) a u=upd H a u:=by
 funext b; unfold upd; split<;>rfl
theorem zw {H:Hp} {a b:Addr} {o u:HO} (h:H a=some o) (h':H b=some u) (d:o≠u):a≠b:=by
 intro e; subst e; rw [h] at h'; exact d (Option.some.inj h')
theorem zI {H:Hp} {a b:Addr} {o:HO} (h:H a=some o) (h':H b=none):a≠b:=by
 intro e; subst e; rw [h] at h'; cases h'
section
variable (P:Program) (w:World)
def zp (H:Hp) (h:Heap) (a:Addr):HO->Prop
 |.lst xs=>xs.length<=sizeLine/\∃ (its:List Value) (n:Nat),Vals xs its/\h.get? a=some {cls:=.type "list",data:=.seq its.toArray n}
 |.tup xs=>xs.length<=sizeLine/\∃ its:List Value,Vals xs its/\IsTup h a its.toArray
 |.dK kvs=>kvs.length<=sizeLine/\(a == sysModules)=false/\∃ vs,KV kvs vs/\h.DictOf (yE P w) a vs
 |.dT kvs=>kvs.length<=sizeLine/\(a == sysModules)=false/\∃ xs:List (List Key × Addr × Value),
   Paired (fun (p:List Key × V) (q:List Key × Addr × Value)=>p.1=q.1/\H q.2.1=some (.tup (p.1.map kV))/\RelV p.2 q.2.2) kvs xs/\
   ∃ o es ep,h.get? a=some o/\o.ExactDict/\o.data=.dict es ep/\es.toList=xs.map (entryOfKey (tupleKind (yE P w)))/\(xs.map (·.1)).Nodup
 |.set S n=>h.SetOf (intKind P w) a S n
 |.ins C dx fs=>H dx=some (.own a)/\fs.length<=1000/\dx≠a/\h.get? a=some (instObj C dx)/\
   ∃ mA,h.Ns1 dx mA/\(∀ f,RelO (fs.lookup f) (mA f))/\PySem.Within mA (fs.map (·.1))
 |.own _=>∃ o,h.get? a=some o
 |.xd fs=>∃ mA,h.Ns1 a mA/\∀ f,RelO (fs.lookup f) (mA f)
 |.rng lo hi=>∃ t u v,h.get? a=some {cls:=.type "range",data:=.fields #[.int lo t,.int hi u,.int 1 v]}
 |.frz o u=>h.get? a=some o/\zp H h a u
 |.tbl ps=>h.get? a=some {cls:=.none,data:=.fields ps}
 |.met f x=>h.get? a=some (methodObj (.ref f) (.ref x))
 |.ext φ=>φ h/\(∃ o,h.get? a=some o)/\∀ h1 h2:Heap,φ h1->(∀ o,h1.get? a=some o->h2.get? a=some o)->φ h2
def HOk (H:Hp) (h:Heap):Prop:=∀ a o,H a=some o->zp P w H h a o
end
section
variable {P:Program} {w:World} {H H':Hp} {h h':Heap} {a:Addr} {o:HO}
theorem zp.lt (x:zp P w H h a o):a < h.objs.size:=by
 cases o with
 |lst xs=>obtain ⟨_,_,_,_,e⟩:=x; exact Heap.lt_size e
 |tup xs=>obtain ⟨_,_,_,p⟩:=x; exact p.lt
 |dK kvs=>obtain ⟨_,_,_,_,o,_,_,e,_⟩:=x; exact Heap.lt_size e
 |dT kvs=>obtain ⟨_,_,_,_,o,_,_,e,_⟩:=x; exact Heap.lt_size e
 |set S n=>obtain ⟨o,_,_,_,e,_⟩:=x; exact Heap.lt_size e
 |ins C dx fs=>obtain ⟨_,_,_,e,_⟩:=x; exact Heap.lt_size e
 |own y=>obtain ⟨_,e⟩:=x; exact Heap.lt_size e
 |xd fs=>obtain ⟨_,⟨_,_,_,e,_⟩,_⟩:=x; exact Heap.lt_size e
 |rng lo hi=>obtain ⟨_,_,_,e⟩:=x; exact Heap.lt_size e
 |frz ob u=>obtain ⟨e,_⟩:=x; exact Heap.lt_size e
 |tbl ps=>exact Heap.lt_size (show h.get? a=some _ from x)
 |met f y=>exact Heap.lt_size (show h.get? a=some _ from x)
 |ext φ=>obtain ⟨_,⟨_,e⟩,_⟩:=x; exact Heap.lt_size e
theorem Paired.mapP {α β:Type} {F G:α->β->Prop}:∀ {l₁:List α} {l₂:List β},Paired F l₁ l₂->(∀ a b,F a b->G a b)->Paired G l₁ l₂
 |_,_,.nil,_=>.nil
 |_,_,.cons r t,f=>.cons (f _ _ r) (Paired.mapP t f)
theorem zp.stay (x:zp P w H h a o) (k:∀ b u,(b=a\/H b=some (.own a))->h.get? b=some u->h'.get? b=some u)
  (ho:∀ b,H b=some (.own a)->H' b=some (.own a)) (ht:∀ b xs,H b=some (.tup xs)->H' b=some (.tup xs)):zp P w H' h' a o:=by
 induction o with
 |lst xs=>obtain ⟨z,its,n,r,e⟩:=x; exact ⟨z,its,n,r,k _ _ (.inl rfl) e⟩
 |tup xs=>obtain ⟨z,its,r,ob,e,c⟩:=x; exact ⟨z,its,r,ob,k _ _ (.inl rfl) e,c⟩
 |dK kvs=>obtain ⟨z,y,vs,r,ob,es,ep,e,c⟩:=x; exact ⟨z,y,vs,r,ob,es,ep,k _ _ (.inl rfl) e,c⟩
 |dT kvs=>
  obtain ⟨z,y,xs,r,ob,es,ep,e,c⟩:=x
  exact ⟨z,y,xs,Paired.mapP r fun p q z=>⟨z.1,ht _ _ z.2.1,z.2.2⟩,ob,es,ep,k _ _ (.inl rfl) e,c⟩
 |set S n=>obtain ⟨ob,es,ep,t,e,c⟩:=x; exact ⟨ob,es,ep,t,k _ _ (.inl rfl) e,c⟩
 |ins C dx fs=>
  obtain ⟨d,z,ne,e,mA,⟨od,es,ep,e2,c⟩,r⟩:=x
  exact ⟨ho _ d,z,ne,k _ _ (.inl rfl) e,mA,⟨od,es,ep,k _ _ (.inr d) e2,c⟩,r⟩
 |own y=>obtain ⟨ob,e⟩:=x; exact ⟨ob,k _ _ (.inl rfl) e⟩
 |xd fs=>obtain ⟨mA,⟨od,es,ep,e,c⟩,r⟩:=x; exact ⟨mA,⟨od,es,ep,k _ _ (.inl rfl) e,c⟩,r⟩
 |rng lo hi=>obtain ⟨t,u,v,e⟩:=x; exact ⟨t,u,v,k _ _ (.inl rfl) e⟩
 |frz ob u ih=>obtain ⟨e,q⟩:=x; exact ⟨k _ _ (.inl rfl) e,ih q⟩
 |tbl ps=>
  have e:h.get? a=some {cls:=.none,data:=.fields ps}:=x
  show h'.get? a=some {cls:=.none,data:=.fields ps}
  exact k a _ (.inl rfl) e
 |met f y=>
  have e:h.get? a=some (methodObj (.ref f) (.ref y)):=x
  show h'.get? a=some (methodObj (.ref f) (.ref y))
  exact k a _ (.inl rfl) e
 |ext φ=>obtain ⟨p,⟨o,e⟩,st⟩:=x; exact ⟨st _ _ p fun o q=>k _ _ (.inl rfl) q,⟨o,k _ _ (.inl rfl) e⟩,st⟩
theorem HOk.lt (x:HOk P w H h) (e:H a=some o):a < h.objs.size:=(x a o e).lt
theorem HOk.fresh (x:HOk P w H h) (e:h.objs.size<=a):H a=none:=by
 cases q:H a with
 |none=>rfl
 |some u=>exact absurd (Nat.lt_of_lt_of_le (x.lt q) e) (Nat.lt_irrefl _)
theorem HOk.kept (x:HOk P w H h) (k:∀ b u,h.get? b=some u->h'.get? b=some u):HOk P w H h':=fun a o e=>
 (x a o e).stay (fun b u _ q=>k b u q) (fun _ q=>q) fun _ _ q=>q
theorem HOk.laid (x:HOk P w H h) (k:∀ b u,h.get? b=some u->h'.get? b=some u) (hp:h.objs.size<=a) (new:zp P w (upd H a o) h' a o):HOk P w (upd H a o) h':=fun b u e=>by
 have hn:=x.fresh hp
 by_cases hb:b=a
 ·subst hb; rw [zq] at e; cases e; exact new
 ·rw [zX hb] at e
  exact (x b u e).stay (fun c v _ q=>k c v q) (fun c q=>by rw [zX (zI q hn)]; exact q) fun c xs q=>by rw [zX (zI q hn)]; exact q
end
def Rd (H:Hp) (a:Addr) (u:HO):Prop:=H a=some u\/∃ o,H a=some (.frz o u)
theorem Rd.ok {P:Program} {w:World} {H:Hp} {h:Heap} {a:Addr} {u:HO} (r:Rd H a u) (x:HOk P w H h):zp P w H h a u:=by
 rcases r with r|⟨o,r⟩
 ·exact x a u r
 ·obtain ⟨_,q⟩:=x a _ r
  exact q
def Mut:Option HO->Prop
 |some (.lst _)=>True
 |some (.dK _)=>True
 |some (.dT _)=>True
 |some (.set _ _)=>True
 |some (.ins _ _ _)=>True
 |some (.ext _)=>True
 |_=>False
section
variable {P:Program} {w:World} {H:Hp} {h h':Heap} {x e:Addr} {o':HO}
theorem HOk.write (ok:HOk P w H h) (mu:Mut (H x)) (he:e=x\/H e=some (.own x)) (k:∀ b u,b≠e->h.get? b=some u->h'.get? b=some u) (heo:∃ u,h'.get? e=some u)
  (new:zp P w (upd H x o') h' x o'):HOk P w (upd H x o') h':=fun b u q=>by
 have nown:∀ c y,H c=some (.own y)->c≠x:=fun c y r z=>by subst z; rw [r] at mu; exact mu
 have ntup:∀ c xs,H c=some (.tup xs)->c≠x:=fun c xs r z=>by subst z; rw [r] at mu; exact mu
 by_cases hb:b=x
 ·subst hb; rw [zq] at q; cases q; exact new
 ·rw [zX hb] at q
  by_cases hbe:b=e
  ·have q':H b=some (.own x):=by
    rcases he with z|z
    ·exact absurd (hbe.trans z) hb
    ·rw [hbe]; exact z
   rw [q] at q'; cases q'
   obtain ⟨v,hv⟩:=heo
   exact ⟨v,by rw [hbe]; exact hv⟩
  ·refine (ok b u q).stay (fun c v hc r=>k c v ?_ r) (fun c r=>by rw [zX (nown c b r)]; exact r) fun c xs r=>by rw [zX (ntup c xs r)]; exact r
   rcases hc with rfl|hc
   ·exact hbe
   ·rintro rfl
    rcases he with z|z
    ·exact nown c b hc z
    ·rw [hc] at z; cases z; exact hb rfl
end
structure Un (fs ex:List Addr) (H H':Hp) (h h':Heap):Prop where
 keep:∀ b o,h.get? b=some o->H b=none->b∉fs->b∉ex->h'.get? b=some o
 slot:∀ b o,h.get? b=some o->H b=none->b∈fs->b∉ex->∃ sl,h'.get? b=some {o with slots:=sl}
 free:∀ b o,h.get? b=some o->H b=none->b∉ex->H' b=none
 there:∀ b o,h.get? b=some o->b∉ex->∃ o',h'.get? b=some o'
 tups:∀ b xs,H b=some (.tup xs)->H' b=some (.tup xs)
 frzs:∀ b o u,H b=some (.frz o u)->H' b=some (.frz o u)
 tbls:∀ b ps,H b=some (.tbl ps)->∃ more,H' b=some (.tbl (ps++more))
section
variable {fs fs' ex ex':List Addr} {H H1 H2:Hp} {h h1 h2 h':Heap} {a x e:Addr} {o:HO}
theorem Un.any (u:Un fs ex H H1 h h1) {b:Addr} {ob:Obj} (q:h.get? b=some ob) (n:H b=none) (hx:b∉ex):∃ sl,h1.get? b=some {ob with slots:=sl}:=by
 by_cases hb:b∈fs
 ·exact u.slot b ob q n hb hx
 ·exact ⟨ob.slots,u.keep b ob q n hb hx⟩
theorem Un.kept (k:∀ b u,h.get? b=some u->h'.get? b=some u):Un fs ex H H h h':=
 ⟨fun b ob q _ _ _=>k b ob q,fun b ob q _ _ _=>⟨ob.slots,k b ob q⟩,fun _ _ _ n _=>n,fun b ob q _=>⟨ob,k b ob q⟩,fun _ _ q=>q,fun _ _ _ q=>q,fun _ ps q=>⟨#[],by rw [q]; simp⟩⟩
theorem Un.refl:Un fs ex H H h h:=Un.kept fun _ _ q=>q
theorem Un.laid (k:∀ b u,h.get? b=some u->h'.get? b=some u) (hp:h.objs.size<=a) (hn:H a=none):Un fs ex H (upd H a o) h h' where
 keep:=fun b u q _ _ _=>k b u q
 slot:=fun b u q _ _ _=>⟨u.slots,k b u q⟩
 free:=fun b u q n _=>by rw [zX (Nat.ne_of_lt (Nat.lt_of_lt_of_le (Heap.lt_size q) hp))]; exact n
 there:=fun b u q _=>⟨u,k b u q⟩
 tups:=fun b xs q=>by rw [zX (zI q hn)]; exact q
 frzs:=fun b u xs q=>by rw [zX (zI q hn)]; exact q
 tbls:=fun b ps q=>⟨#[],by rw [zX (zI q hn),q]; simp⟩
theorem Un.write (mu:Mut (H x)) (he:e=x\/H e=some (.own x)) (k:∀ b u,b≠e->h.get? b=some u->h'.get? b=some u) (heo:∃ u,h'.get? e=some u):Un fs ex H (upd H x o) h h':=by
 have hx:∀ b,H b=none->b≠x:=fun b n z=>by subst z; rw [n] at mu; exact mu
 have hb:∀ b,H b=none->b≠e:=fun b n z=>by
  subst z
  rcases he with r|r
  ·exact hx b n r
  ·rw [n] at r; cases r
 have hm:∀ b u,H b=some u->¬ Mut (some u)->b≠x:=fun b u q nm z=>by subst z; rw [q] at mu; exact nm mu
 refine ⟨fun b u q n _ _=>k b u (hb b n) q,fun b u q n _ _=>⟨u.slots,k b u (hb b n) q⟩,fun b u q n _=>by rw [zX (hx b n)]; exact n,fun b u q _=>?_,
  fun b xs q=>by rw [zX (hm b _ q fun z=>z)]; exact q,fun b u xs q=>by rw [zX (hm b _ q fun z=>z)]; exact q,fun b ps q=>⟨#[],by rw [zX (hm b _ q fun z=>z),q]; simp⟩⟩
 by_cases hbe:b=e
 ·subst hbe; exact heo
 ·exact ⟨u,k b u hbe q⟩
end
def trk (h:Heap) (H:Hp):List Addr:=(List.range h.objs.size).filter fun a=>(H a).isSome
def hidT (h:Heap) (H:Hp):Heap:=PySem.W.hideAll h (trk h H)
theorem hidT_size (h:Heap) (H:Hp):(hidT h H).objs.size=h.objs.size:=PySem.W.hideAll_size _ _
theorem hidT_get {h:Heap} {H:Hp} {b:Addr} {o:Obj} (e:h.get? b=some o) (n:H b=none):(hidT h H).get? b=some o:=
 PySem.W.hideAll_get _ e fun hm=>by
  have q:(H b).isSome=true:=(List.mem_filter.mp hm).2
  rw [n] at q; simp at q
theorem of_hidT {h:Heap} {H:Hp} {b:Addr} {o:Obj} (e:(hidT h H).get? b=some o):h.get? b=some o/\H b=none:=by
 have e':h.get? b=some o:=PySem.W.of_hideAll (trk h H) e
 refine ⟨e',?_⟩
 cases q:H b with
 |none=>rfl
 |some x=>
  have hm:b∈trk h H:=List.mem_filter.mpr ⟨List.mem_range.mpr (Heap.lt_size e'),by simp [q]⟩
  have z:(hidT h H).get? b=none:=PySem.W.hideAll_none (trk h H) hm
  rw [z] at e; cases e
end L2
namespace L2
open PySem PySem.Spec PyProof.Rows
structure Mod (K:PySem.W.Frag) (mg:Str->Option Value) (base:Heap):Prop where
 kin:K.In base
 glob:base.Ns mainGlobals mg
 blt:∃ mb,base.Ns builtinsNs mb/\∀ x:Str,x≠"__name__"->mb x=bootBuiltins x
 nolimit:base.NoLimit
structure Cx where
 prog:Program
 w:World
 K:PySem.W.Frag
 mg:Str->Option Value
 base:Heap
 A:Around
 N:List Str
 s₀:Shared
 H₀:Hp
 env:Env
 outer:List Env
 stack:List Env
 ex:List Addr
 fn:Str->Bool
 calm:Bool
 pn:List (Addr × Obj)
 xe:Value->Shared->Prop
def frs (l:List Env):List Addr:=l.filterMap (·.frame)
abbrev Cx.fs (X:Cx):List Addr:=frs X.outer
def Vis (sc:Scope) (x:Str):Prop:=sc.names.lookup x=some .local\/sc.names.lookup x=some .cell\/sc.names.lookup x=some .free
def Loc (sc:Scope) (x:Str):Prop:=sc.names.lookup x=some .local\/sc.names.lookup x=some .cell
def Look (env:Env) (h:Heap) (m:Str->Option Value) (x:Str) (u:Value):Prop:=
 (env.kindOf x=some .local/\m x=some u)\/((env.kindOf x=some .cell\/env.kindOf x=some .free)/\∃ c,env.cells.lookup x=some c/\h.IsCell c (some u))
structure Cx.Ok (X:Cx):Prop where
 mod:Mod X.K X.mg X.base
 kind:X.env.scope.kind=.function
 glob:X.env.globals=mainGlobals
 blt:X.env.builtins=builtinsNs
 above:X.s₀.heap.objs.size<=X.env.locals
 inj:∀ x y c,X.env.cells.lookup x=some c->X.env.cells.lookup y=some c->x=y
 has:∀ x,(X.env.kindOf x=some .cell\/X.env.kindOf x=some .free)->∃ c,X.env.cells.lookup x=some c
 cab:∀ x c,X.fn x=true->X.env.cells.lookup x=some c->X.s₀.heap.objs.size<=c
 hd:X.calm=true->X.A.handled=none
 frames:X.A.frames=some X.stack
 stk:X.stack=X.outer\/(X.stack=X.env::X.outer/\X.env.frame=some X.env.locals)
 exf:∀ b∈X.ex,b≠X.env.locals/\∀ x c,X.env.cells.lookup x=some c->c≠b
 bs:∀ b o,X.base.get? b=some o->X.s₀.heap.get? b=some o/\X.H₀ b=none
 bsz:X.base.objs.size<=X.s₀.heap.objs.size
 noex:∀ b o,X.base.get? b=some o->b∉X.ex
 exfs:∀ b∈X.ex,b∉X.fs
 funs:X.s₀.heap.FunFrames X.base X.outer
 frf:∀ b∈X.fs,X.H₀ b=none
structure Inv (X:Cx) (pins:List (Addr × Obj)) (σ:List (Option V)) (H:Hp) (s:Shared):Prop where
 ok:X.Ok
 os:s.os=X.s₀.os
 bare:AllBare s.gens
 base:Un X.fs X.ex X.H₀ H X.s₀.heap s.heap
 loc:∃ m,s.heap.Ns X.env.locals m/\∀ (i:Nat) (x:Str) (v:V),X.N[i]?=some x->σ[i]?=some (some v)->Vis X.env.scope x->∃ u,RelV v u/\Look X.env s.heap m x u
 cell:∀ x c,X.env.cells.lookup x=some c->∃ v,s.heap.IsCell c v
 free:H X.env.locals=none
 freeC:∀ x c,X.env.cells.lookup x=some c->H c=none
 pin:∀ p∈X.pn++pins,s.heap.get? p.1=some p.2/\H p.1=none/\p.1≠X.env.locals/\p.1∉X.fs/\∀ v,p.2.data≠.cell v
 hok:HOk X.prog X.w H s.heap
 len:σ.length=X.N.length
section
variable {X:Cx} {pins:List (Addr × Obj)} {σ:List (Option V)} {H H':Hp} {s:Shared} {h':Heap}
theorem Cx.Ok.nofr (ok:X.Ok) {b:Addr} {o:Obj} (e:X.base.get? b=some o):b∉X.fs:=fun hb=>by
 have:=(ok.funs.mem hb).1
 rw [e] at this; cases this
theorem Inv.bs (I:Inv X pins σ H s):∀ b o,X.base.get? b=some o->s.heap.get? b=some o/\H b=none:=fun b o e=>
 ⟨I.base.keep b o (I.ok.bs b o e).1 (I.ok.bs b o e).2 (I.ok.nofr e) (I.ok.noex b o e),I.base.free b o (I.ok.bs b o e).1 (I.ok.bs b o e).2 (I.ok.noex b o e)⟩
theorem Inv.bk (I:Inv X pins σ H s):∀ b o,X.base.get? b=some o->s.heap.get? b=some o:=fun b o e=>(I.bs b o e).1
theorem Inv.mod (I:Inv X pins σ H s):Mod X.K X.mg X.base:=I.ok.mod
theorem Inv.kIn (I:Inv X pins σ H s):X.K.In s.heap:=I.ok.mod.kin.keeps I.bk
theorem Inv.lt (I:Inv X pins σ H s):X.env.locals < s.heap.objs.size:=let ⟨_,hn,_⟩:=I.loc; hn.lt
theorem Inv.sz (I:Inv X pins σ H s):X.s₀.heap.objs.size<=s.heap.objs.size:=Nat.le_trans I.ok.above (Nat.le_of_lt I.lt)
theorem Inv.nofs (I:Inv X pins σ H s) {a:Addr} (h:s.heap.objs.size<=a):a∉X.fs:=fun hb=>by
 obtain ⟨_,o,ho,_⟩:=I.ok.funs.mem hb
 exact absurd (Nat.lt_of_lt_of_le (Heap.lt_size ho) (Nat.le_trans I.sz h)) (Nat.lt_irrefl _)
theorem Inv.cne (I:Inv X pins σ H s):∀ x c,X.env.cells.lookup x=some c->c≠X.env.locals:=fun x c e z=>by
 obtain ⟨v,o,ho,hd⟩:=I.cell x c e
 obtain ⟨m,⟨o',es,ep,ho',hd',_⟩,_⟩:=I.loc
 rw [z,ho'] at ho; cases ho; rw [hd'] at hd; cases hd
theorem Inv.funs (I:Inv X pins σ H s):s.heap.FunFrames X.base X.outer:=by
 have all:∀ (l:List Env),(∀ b∈frs l,b∈X.fs)->X.s₀.heap.FunFrames X.base l->s.heap.FunFrames X.base l:=by
  intro l
  induction l with
  |nil=>intro _ _; trivial
  |cons env r ih=>
   intro hs hl
   obtain ⟨hk,⟨L,o,hf,hn,ho,hd⟩,hr⟩:=hl
   have hL:L∈X.fs:=hs L (by unfold frs; rw [List.filterMap_cons,hf]; exact List.mem_cons_self)
   obtain ⟨sl,e⟩:=I.base.slot L o ho (I.ok.frf L hL) hL fun z=>I.ok.exfs L z hL
   exact ⟨hk,⟨L,_,hf,hn,e,hd⟩,ih (fun b hb=>hs b (by unfold frs; rw [List.filterMap_cons,hf]; exact List.mem_cons_of_mem _ hb)) hr⟩
 exact all X.outer (fun _ hb=>hb) I.ok.funs
theorem Inv.stack (I:Inv X pins σ H s):s.heap.FunFrames X.base X.stack:=by
 rcases I.ok.stk with e|⟨e,hf⟩
 ·rw [e]; exact I.funs
 ·rw [e]
  obtain ⟨m,hn,_⟩:=I.loc
  refine .cons (by rw [I.ok.kind]; decide) hf hn ?_ I.funs
  exact Heap.get?_none_of_le (Nat.le_trans I.ok.bsz I.ok.above)
theorem Inv.stkSub (I:Inv X pins σ H s):∀ b∈frs X.stack,b∈X.env.locals::X.fs:=fun b hb=>by
 rcases I.ok.stk with e|⟨e,hf⟩
 ·rw [e] at hb; exact List.mem_cons_of_mem _ hb
 ·rw [e] at hb
  unfold frs at hb
  rw [List.filterMap_cons,hf] at hb
  exact hb
theorem Inv.stkFree (I:Inv X pins σ H s):∀ b∈frs X.stack,H b=none:=fun b hb=>by
 rcases List.mem_cons.mp (I.stkSub b hb) with e|hb
 ·rw [e]; exact I.free
 ·obtain ⟨_,o,ho,_⟩:=I.ok.funs.mem hb
  exact I.base.free b o ho (I.ok.frf b hb) fun z=>I.ok.exfs b z hb
theorem Inv.step {g':Array GenState} {t':Nat} {d':Drawn} {ch:List Addr} (I:Inv X pins σ H s)
  (hch:∀ b∈ch,(b∈X.ex\/X.s₀.heap.objs.size<=b)/\b≠X.env.locals/\(∀ x c,X.env.cells.lookup x=some c->c≠b)/\∀ p∈X.pn++pins,p.1≠b)
  (keep:∀ b o,b≠X.env.locals->b∉X.fs->b∉ch->s.heap.get? b=some o->H b=none->h'.get? b=some o)
  (slot:∀ b o,b≠X.env.locals->b∈X.fs->b∉ch->s.heap.get? b=some o->H b=none->∃ sl,h'.get? b=some {o with slots:=sl}) (free:∀ b o,b∉ch->s.heap.get? b=some o->H b=none->H' b=none)
  (there:∀ b o,b∉ch->s.heap.get? b=some o->∃ o',h'.get? b=some o')
  (tups:∀ b xs,H b=some (.tup xs)->H' b=some (.tup xs)) (frzs:∀ b o u,H b=some (.frz o u)->H' b=some (.frz o u)) (tbls:∀ b ps,H b=some (.tbl ps)->∃ more,H' b=some (.tbl (ps++more)))
  (ns:∀ m,s.heap.Ns X.env.locals m->h'.Ns X.env.locals m) (hok:HOk X.prog X.w H' h') (hg:AllBare g') :
  Inv X pins σ H' {s with heap:=h',gens:=g',drawn:=d',toks:=t'}:=by
 have neL:∀ b o,X.s₀.heap.get? b=some o->b≠X.env.locals:=fun b o e=>Nat.ne_of_lt (Nat.lt_of_lt_of_le (Heap.lt_size e) I.ok.above)
 have neC:∀ b o,X.s₀.heap.get? b=some o->b∉X.ex->b∉ch:=fun b o e hx hb=>by
  rcases (hch b hb).1 with z|z
  ·exact hx z
  ·exact absurd (Nat.lt_of_lt_of_le (Heap.lt_size e) z) (Nat.lt_irrefl _)
 have cellK:∀ x c,X.env.cells.lookup x=some c->∀ v,s.heap.IsCell c v->h'.IsCell c v:=fun x c e v ⟨o,ho,hd⟩=>by
  have nch:c∉ch:=fun z=>(hch c z).2.2.1 x c e rfl
  by_cases hc:c∈X.fs
  ·obtain ⟨sl,q⟩:=slot c o (I.cne x c e) hc nch ho (I.freeC x c e)
   exact ⟨_,q,hd⟩
  ·exact ⟨o,keep c o (I.cne x c e) hc nch ho (I.freeC x c e),hd⟩
 refine ⟨I.ok,I.os,hg,⟨fun b o e n hb hx=>?_,fun b o e n hb hx=>?_,fun b o e n hx=>?_,fun b o e hx=>?_,fun b xs e=>tups b xs (I.base.tups b xs e),fun b o xs e=>frzs b o xs (I.base.frzs b o xs e),fun b ps e=>?_⟩,?_,fun x c e=>?_,?_,fun x c e=>?_,fun p hp=>?_,hok,I.len⟩
 ·exact keep b o (neL b o e) hb (neC b o e hx) (I.base.keep b o e n hb hx) (I.base.free b o e n hx)
 ·obtain ⟨sl,e1⟩:=I.base.slot b o e n hb hx
  obtain ⟨sl',e2⟩:=slot b _ (neL b o e) hb (neC b o e hx) e1 (I.base.free b o e n hx)
  exact ⟨sl',e2⟩
 ·obtain ⟨o',e1⟩:=I.base.there b o e hx
  exact free b o' (neC b o e hx) e1 (I.base.free b o e n hx)
 ·obtain ⟨o',e1⟩:=I.base.there b o e hx
  exact there b o' (neC b o e hx) e1
 ·obtain ⟨m1,e1⟩:=I.base.tbls b ps e
  obtain ⟨m2,e2⟩:=tbls b _ e1
  exact ⟨m1++m2,by rw [e2,Array.append_assoc]⟩
 ·obtain ⟨m,hn,hl⟩:=I.loc
  refine ⟨m,ns m hn,fun i x v e1 e2 e3=>?_⟩
  obtain ⟨u,r,l⟩:=hl i x v e1 e2 e3
  refine ⟨u,r,?_⟩
  rcases l with l|⟨k,c,e,z⟩
  ·exact .inl l
  ·exact .inr ⟨k,c,e,cellK x c e _ z⟩
 ·obtain ⟨v,z⟩:=I.cell x c e
  exact ⟨v,cellK x c e v z⟩
 ·obtain ⟨m,⟨o,_,_,ho,_⟩,_⟩:=I.loc
  exact free _ o (fun z=>(hch _ z).2.1 rfl) ho I.free
 ·obtain ⟨v,o,ho,hd⟩:=I.cell x c e
  exact free c o (fun z=>(hch c z).2.2.1 x c e rfl) ho (I.freeC x c e)
 ·obtain ⟨e,n,ne,nf,d⟩:=I.pin p hp
  have nch:p.1∉ch:=fun z=>(hch p.1 z).2.2.2 p hp rfl
  exact ⟨keep p.1 p.2 ne nf nch e n,free p.1 p.2 nch e n,ne,nf,d⟩
theorem Inv.un {t':Nat} (I:Inv X pins σ H s) (u:Un X.fs [] H H' s.heap h') (hok:HOk X.prog X.w H' h'):Inv X pins σ H' {s with heap:=h',toks:=t'}:=by
 obtain ⟨m,⟨o,es,ep,ho,r⟩,_⟩:=id I.loc
 obtain ⟨sl,hL⟩:=u.any ho I.free (by simp)
 exact I.step (g':=s.gens) (d':=s.drawn) (ch:=[]) (fun _ z=>nomatch z) (fun b o _ hb _ e n=>u.keep b o e n hb (by simp)) (fun b o _ hb _ e n=>u.slot b o e n hb (by simp)) (fun b o _ e n=>u.free b o e n (by simp)) (fun b o _ e=>u.there b o e (by simp)) u.tups u.frzs u.tbls (fun m' hm=>by
  obtain ⟨o',es',ep',ho',r'⟩:=hm
  rw [ho] at ho'; cases ho'
  exact ⟨_,es',ep',hL,r'⟩) hok I.bare
theorem Inv.call {g':Array GenState} {t':Nat} {d':Drawn} {ch:List Addr} (I:Inv X pins σ H s) (u:Un (frs X.stack) ch H H' s.heap h') (hok:HOk X.prog X.w H' h') (hg:AllBare g')
  (hch:∀ b∈ch,(b∈X.ex\/X.s₀.heap.objs.size<=b)/\b≠X.env.locals/\(∀ x c,X.env.cells.lookup x=some c->c≠b)/\∀ p∈X.pn++pins,p.1≠b) :
  Inv X pins σ H' {s with heap:=h',gens:=g',drawn:=d',toks:=t'}:=by
 obtain ⟨m,⟨o,es,ep,ho,r⟩,_⟩:=id I.loc
 obtain ⟨sl,hL⟩:=u.any ho I.free fun z=>(hch _ z).2.1 rfl
 exact I.step (ch:=ch) hch (fun b o hL hb hc e n=>u.keep b o e n (fun z=>(List.mem_cons.mp (I.stkSub b z)).elim hL hb) hc) (fun b o _ _ hc e n=>u.any e n hc) (fun b o hc e n=>u.free b o e n hc) (fun b o hc e=>u.there b o e hc) u.tups u.frzs u.tbls (fun m' hm=>by
  obtain ⟨o',es',ep',ho',r'⟩:=hm
  rw [ho] at ho'; cases ho'
  exact ⟨_,es',ep',hL,r'⟩) hok hg
theorem Inv.turned {t':Nat} {it:Addr} (I:Inv X pins σ H s) (k:∀ b o,b≠it->s.heap.get? b=some o->h'.get? b=some o) (hn:H it=none) (hL:it≠X.env.locals)
  (h1:it∈X.ex\/X.s₀.heap.objs.size<=it) (h2:∀ x c,X.env.cells.lookup x=some c->c≠it) (h3:∀ p∈X.pn++pins,p.1≠it):Inv X pins σ H {s with heap:=h',toks:=t'}:=by
 have nit:∀ b u,H b=some u->b≠it:=fun b u e z=>by rw [z,hn] at e; cases e
 refine I.step (g':=s.gens) (d':=s.drawn) (ch:=[it]) (fun b hb=>?_) (fun b o _ _ hc e _=>k b o (fun z=>hc (by simp [z])) e) (fun b o _ _ hc e _=>⟨o.slots,k b o (fun z=>hc (by simp [z])) e⟩) (fun _ _ _ _ n=>n)
  (fun b o hc e=>⟨o,k b o (fun z=>hc (by simp [z])) e⟩) (fun _ _ e=>e) (fun _ _ _ e=>e) (fun b ps e=>⟨#[],by rw [e]; simp⟩) (fun m hm=>?_) (fun b u e=>?_) I.bare
 ·have e:b=it:=by simpa using hb
  subst e
  exact ⟨h1,hL,h2,h3⟩
 ·obtain ⟨o,es,ep,ho,r⟩:=hm
  exact ⟨o,es,ep,k _ o (Ne.symm hL) ho,r⟩
 ·refine (I.hok b u e).stay (fun c v hc q=>k c v ?_ q) (fun _ q=>q) fun _ _ q=>q
  rcases hc with z|z
  ·rw [z]; exact nit b u e
  ·exact nit c _ z
theorem Inv.tok (I:Inv X pins σ H s) (t:Nat):Inv X pins σ H {s with toks:=t}:=I.un (h':=s.heap) (t':=t) Un.refl I.hok
theorem Inv.kept {t':Nat} (I:Inv X pins σ H s) (k:∀ b u,s.heap.get? b=some u->h'.get? b=some u):Inv X pins σ H {s with heap:=h',toks:=t'}:=I.un (Un.kept k) (I.hok.kept k)
theorem Inv.laid {a:Addr} {o:HO} {t':Nat} (I:Inv X pins σ H s) (k:∀ b u,s.heap.get? b=some u->h'.get? b=some u) (hp:s.heap.objs.size<=a) (new:zp X.prog X.w (upd H a o) h' a o) :
  Inv X pins σ (upd H a o) {s with heap:=h',toks:=t'}:=I.un (Un.laid k hp (I.hok.fresh hp)) (I.hok.laid k hp new)
theorem Inv.write {x e:Addr} {o:HO} {t':Nat} (I:Inv X pins σ H s) (mu:Mut (H x)) (he:e=x\/H e=some (.own x)) (k:∀ b u,b≠e->s.heap.get? b=some u->h'.get? b=some u) (heo:∃ u,h'.get? e=some u)
  (new:zp X.prog X.w (upd H x o) h' x o):Inv X pins σ (upd H x o) {s with heap:=h',toks:=t'}:=I.un (Un.write mu he k heo) (I.hok.write mu he k heo new)
theorem Inv.pins_of {pins':List (Addr × Obj)} (I:Inv X pins σ H s) (h:∀ p∈pins',s.heap.get? p.1=some p.2/\H p.1=none/\p.1≠X.env.locals/\p.1∉X.fs/\∀ v,p.2.data≠.cell v):Inv X pins' σ H s:=
 ⟨I.ok,I.os,I.bare,I.base,I.loc,I.cell,I.free,I.freeC,fun p hp=>(List.mem_append.mp hp).elim (fun z=>I.pin p (List.mem_append_left _ z)) (h p),I.hok,I.len⟩
theorem nodup_ix {N:List Str} (hN:N.Nodup) {i j:Nat} {x:Str} (a:N[i]?=some x) (b:N[j]?=some x):i=j:=by
 obtain ⟨h1,e1⟩:=List.getElem?_eq_some_iff.mp a
 obtain ⟨h2,e2⟩:=List.getElem?_eq_some_iff.mp b
 exact (List.getElem_inj hN).mp (e1.trans e2.symm)
theorem Z6 {M:Model} {A:Around} {E:Value->Shared->Prop} {i:Nat} {x:Str} {v:V} {u:Value} {Q:Unit->Shared->Prop} (I:Inv X pins σ H s) (hN:X.N.Nodup) (hi:X.N[i]?=some x) (hx:Loc X.env.scope x) (r:RelV v u)
  (h:∀ s',Inv X pins (σ.set i (some v)) H s'->(∃ a,Heap.SameBut a s.heap s'.heap/\(a=X.env.locals\/X.env.cells.lookup x=some a))->Q () s') (hf:X.fn x=true\/X.env.scope.names.lookup x=some .local:=by first|exact .inl rfl|exact .inr rfl|assumption):wpAny M A (storeName X.env x u) Q E s:=by
 obtain ⟨m,hn,hl⟩:=id I.loc
 have hcls:(X.env.scope.kind == .class || (X.env.scope.kind == .module && X.env.locals != X.env.globals))=false:=by rw [I.ok.kind]; rfl
 have hiσ:i < σ.length:=by rw [I.len]; exact (List.getElem?_eq_some_iff.mp hi).1
 have cne:=I.cne
 have tracked:∀ {a:Addr} {h':Heap},(∃ o,s.heap.get? a=some o/\H a=none)->Heap.SameBut a s.heap h'->HOk X.prog X.w H h':=fun {a h'} ha hs b ob e=>by
  obtain ⟨_,_,hfree⟩:=ha
  refine (I.hok b ob e).stay (fun c w' hc q=>(hs.2 c ?_).trans q) (fun _ q=>q) fun _ _ q=>q
  rintro rfl
  rcases hc with rfl|hc
  ·rw [hfree] at e; cases e
  ·rw [hfree] at hc; cases hc
 rcases hx with hk|hk
 ·refine wpAny_storeName_local hk hn (fun h' hn' hs=>?_) hcls
  obtain ⟨oL,_,_,hoL,_⟩:=id hn
  refine h _ ⟨I.ok,I.os,I.bare,⟨fun b o e n hb hx=>?_,fun b o e n hb hx=>?_,I.base.free,fun b o e hx=>?_,I.base.tups,I.base.frzs,I.base.tbls⟩,⟨_,hn',fun j y v' e1 e2 e3=>?_⟩,fun y c e=>?_,I.free,I.freeC,fun p hp=>?_,tracked ⟨oL,hoL,I.free⟩ hs,by simpa using I.len⟩ ⟨_,hs,.inl rfl⟩
  ·exact (hs.2 b (Nat.ne_of_lt (Nat.lt_of_lt_of_le (Heap.lt_size e) I.ok.above))).trans (I.base.keep b o e n hb hx)
  ·obtain ⟨sl,e1⟩:=I.base.slot b o e n hb hx
   exact ⟨sl,(hs.2 b (Nat.ne_of_lt (Nat.lt_of_lt_of_le (Heap.lt_size e) I.ok.above))).trans e1⟩
  ·obtain ⟨o',e1⟩:=I.base.there b o e hx
   exact ⟨o',(hs.2 b (Nat.ne_of_lt (Nat.lt_of_lt_of_le (Heap.lt_size e) I.ok.above))).trans e1⟩
  ·by_cases hj:j=i
   ·subst hj
    rw [hi] at e1; cases e1
    rw [List.getElem?_set_self hiσ] at e2
    cases e2
    exact ⟨u,r,.inl ⟨hk,by simp⟩⟩
   ·rw [List.getElem?_set_ne (Ne.symm hj)] at e2
    obtain ⟨u',r',q⟩:=hl j y v' e1 e2 e3
    refine ⟨u',r',?_⟩
    rcases q with ⟨k,e⟩|⟨k,c,e,z⟩
    ·refine .inl ⟨k,?_⟩
     have:y≠x:=fun e=>hj (nodup_ix hN e1 (e▸hi))
     simp [this,e]
    ·exact .inr ⟨k,c,e,z.sameBut hs (cne y c e)⟩
  ·obtain ⟨w',z⟩:=I.cell y c e
   exact ⟨w',z.sameBut hs (cne y c e)⟩
  ·obtain ⟨e,n,ne,nf,d⟩:=I.pin p hp
   exact ⟨(hs.2 p.1 ne).trans e,n,ne,nf,d⟩
 ·have hfn:X.fn x=true:=by
   rcases hf with z|z
   ·exact z
   ·rw [z] at hk; cases hk
  obtain ⟨c,hc⟩:=I.ok.has x (.inl hk)
  obtain ⟨w',z⟩:=I.cell x c hc
  refine wpAny_storeName_cell I.ok.kind hk hc z (fun h' hc' hs=>?_)
  obtain ⟨oc,hoc,hocd⟩:=id z
  refine h {s with heap:=h'} ⟨I.ok,I.os,I.bare,⟨fun b o e n hb hx=>?_,fun b o e n hb hx=>?_,I.base.free,fun b o e hx=>?_,I.base.tups,I.base.frzs,I.base.tbls⟩,⟨m,hn.sameBut hs (Ne.symm (cne x c hc)),fun j y v' e1 e2 e3=>?_⟩,fun y c' e=>?_,I.free,I.freeC,fun p hp=>?_,tracked ⟨oc,hoc,I.freeC x c hc⟩ hs,by simpa using I.len⟩ ⟨c,hs,.inr hc⟩
  ·exact (hs.2 b (Nat.ne_of_lt (Nat.lt_of_lt_of_le (Heap.lt_size e) (I.ok.cab x c hfn hc)))).trans (I.base.keep b o e n hb hx)
  ·obtain ⟨sl,e1⟩:=I.base.slot b o e n hb hx
   exact ⟨sl,(hs.2 b (Nat.ne_of_lt (Nat.lt_of_lt_of_le (Heap.lt_size e) (I.ok.cab x c hfn hc)))).trans e1⟩
  ·obtain ⟨o',e1⟩:=I.base.there b o e hx
   exact ⟨o',(hs.2 b (Nat.ne_of_lt (Nat.lt_of_lt_of_le (Heap.lt_size e) (I.ok.cab x c hfn hc)))).trans e1⟩
  ·by_cases hj:j=i
   ·subst hj
    rw [hi] at e1; cases e1
    rw [List.getElem?_set_self hiσ] at e2
    cases e2
    exact ⟨u,r,.inr ⟨.inl hk,c,hc,hc'⟩⟩
   ·rw [List.getElem?_set_ne (Ne.symm hj)] at e2
    obtain ⟨u',r',q⟩:=hl j y v' e1 e2 e3
    refine ⟨u',r',?_⟩
    rcases q with q|⟨k,c',e,z'⟩
    ·exact .inl q
    ·refine .inr ⟨k,c',e,z'.sameBut hs ?_⟩
     rintro rfl
     exact hj (nodup_ix hN e1 (I.ok.inj _ _ _ e hc▸hi))
  ·by_cases hcc:c'=c
   ·subst hcc; exact ⟨_,hc'⟩
   ·obtain ⟨w2,z2⟩:=I.cell y c' e
    exact ⟨w2,z2.sameBut hs hcc⟩
  ·obtain ⟨e,n,ne,nf,d⟩:=I.pin p hp
   refine ⟨(hs.2 p.1 ?_).trans e,n,ne,nf,d⟩
   intro q
   rw [q,hoc] at e
   have q':oc=p.2:=Option.some.inj e
   exact d w' (by rw [<- q']; exact hocd)
theorem Yk {M:Model} {A:Around} {E:Value->Shared->Prop} {i:Nat} {x:Str} {v:V} {u:Value} {Q:Unit->Shared->Prop} (I:Inv X pins σ H s) (hN:X.N.Nodup) (hi:X.N[i]?=some x) (hx:Loc X.env.scope x) (r:RelV v u)
  (h:∀ s',Inv X pins (σ.set i (some v)) H s'->Q () s') (hf:X.fn x=true\/X.env.scope.names.lookup x=some .local:=by first|exact .inl rfl|exact .inr rfl|assumption):wpAny M A (storeName X.env x u) Q E s:=
 Z6 I hN hi hx r (fun s' I' _=>h s' I') hf
end
abbrev XK:=Value->Option Addr->Hp->Prop
abbrev St:=List (Option V)
abbrev VK:=V->Hp->Prop
abbrev TE:=St->Hp->VK->Prop
abbrev TT:=St->Hp->(Bool->Hp->Prop)->Prop
abbrev TA:=St->Hp->(List V->Hp->Prop)->Prop
structure Ends where
 nx:St->Hp->Prop
 rt:VK
 bk:St->Hp->Prop:=fun _ _=>False
 ct:St->Hp->Prop:=fun _ _=>False
abbrev TS:=Ends->St->Hp->Prop
def EP (X:Cx) (pins:List (Addr × Obj)) (σ:St) (Q:VK) (u:Value) (s':Shared):Prop:=∃ v H',Inv X pins σ H' s'/\RelV v u/\Q v H'
def TP (X:Cx) (pins:List (Addr × Obj)) (σ:St) (Q:Bool->Hp->Prop) (b:Bool) (s':Shared):Prop:=∃ H',Inv X pins σ H' s'/\Q b H'
def AP (X:Cx) (pins:List (Addr × Obj)) (σ:St) (Q:List V->Hp->Prop) (us:List Value) (s':Shared):Prop:=∃ vs H',Inv X pins σ H' s'/\Vals vs us/\Q vs H'
def SP (X:Cx) (pins:List (Addr × Obj)) (D:Ends) (f:Flow) (s':Shared):Prop:=
 match f with
 |.next=>∃ σ' H',Inv X pins σ' H' s'/\D.nx σ' H'
 |.brk=>∃ σ' H',Inv X pins σ' H' s'/\D.bk σ' H'
 |.cont=>∃ σ' H',Inv X pins σ' H' s'/\D.ct σ' H'
 |.ret u=>∃ v σ' H',Inv X pins σ' H' s'/\RelV v u/\D.rt v H'
def PE (X:Cx) (e:Expr) (t:TE):Prop:=
 ∀ (pins:List (Addr × Obj)) (s:Shared) (σ:St) (H:Hp) (Q:VK),Inv X pins σ H s->t σ H Q->wpAny (model X.prog X.w) X.A (eval e X.env) (EP X pins σ Q) X.xe s
def PT (X:Cx) (e:Expr) (t:TT):Prop:=
 ∀ (pins:List (Addr × Obj)) (s:Shared) (σ:St) (H:Hp) (Q:Bool->Hp->Prop),Inv X pins σ H s->t σ H Q->wpAny (model X.prog X.w) X.A (isTrue e X.env (eval e X.env)) (TP X pins σ Q) X.xe s
def PW (X:Cx) (e:Expr) (t:TT):Prop:=
 ∀ (whole:Sem Value) (pins:List (Addr × Obj)) (s:Shared) (σ:St) (H:Hp) (Q:Bool->Hp->Prop),Inv X pins σ H s->t σ H Q->wpAny (model X.prog X.w) X.A (isTrue e X.env whole) (TP X pins σ Q) X.xe s
theorem PW.pt {X:Cx} {e:Expr} {t:TT} (h:PW X e t):PT X e t:=h _
def PA (X:Cx) (es:List Expr) (t:TA):Prop:=
 ∀ (pos:Pos) (pins:List (Addr × Obj)) (s:Shared) (σ:St) (H:Hp) (Q:List V->Hp->Prop),Inv X pins σ H s->t σ H Q->wpAny (model X.prog X.w) X.A (spliced (backTo pos (starEach es X.env))) (AP X pins σ Q) X.xe s
def PS (X:Cx) (st:Stmt) (t:TS):Prop:=
 ∀ (pins:List (Addr × Obj)) (s:Shared) (σ:St) (H:Hp) (D:Ends),Inv X pins σ H s->t D σ H->wpAny (model X.prog X.w) X.A (exec st X.env) (SP X pins D) X.xe s
def PSs (X:Cx) (st:List Stmt) (t:TS):Prop:=
 ∀ (pins:List (Addr × Obj)) (s:Shared) (σ:St) (H:Hp) (D:Ends),Inv X pins σ H s->t D σ H->wpAny (model X.prog X.w) X.A (execs st X.env) (SP X pins D) X.xe s
theorem thn {α:Type} {t:Sem α} {Q Q':α->Shared->Prop} {M:Model} {A:Around} {E:Value->Shared->Prop} {s:Shared} (h:wpAny M A t Q E s) (hQ:∀ a s,Q a s->Q' a s):wpAny M A t Q' E s:=wpAny_mono h hQ fun _ _ x=>x
end L2
namespace L2
open PySem PySem.Spec PyProof.Rows
section
variable {X:Cx}
def tVar (i:Nat):TE:=fun σ H Q=>∃ v,σ[i]?=some (some v)/\Q v H
def tC (v:V):TE:=fun _ H Q=>Q v H
theorem pe_var {i:Nat} {x:Str} {pos:Pos} (hN:X.N[i]?=some x) (hv:Vis X.env.scope x) (hd:(x == ("__debug__" : Str))=false:=by decide) (hcd:(x == ("__classdict__" : Str))=false:=by decide):PE X (.Name x pos) (tVar i):=by
 intro pins s σ H Q I h
 obtain ⟨v,e,h⟩:=h
 obtain ⟨m,hn,hl⟩:=I.loc
 obtain ⟨u,r,l⟩:=hl i x v hN e hv
 have fin:EP X pins σ Q u s:=⟨v,H,I,r,h⟩
 rcases l with ⟨hk,hm⟩|⟨hk,c,hc,hcell⟩
 ·exact wpAny_Name (wpAny_loadName_local I.ok.kind hk hn hm fin) hd
 ·rcases hk with hk|hk
  ·exact wpAny_Name (wpAny_loadName_cell I.ok.kind hk hc hcell fin) hd
  ·exact wpAny_Name (wpAny_loadName_free I.ok.kind hk hc hcell fin hcd) hd
theorem zC {i j pos}:PE X (.Constant (.int i) j pos) (tC (.int i)):=fun _ _ _ H _ I h=>wpAny_Constant_int ⟨.int i,H,I.tok _,⟨_,rfl⟩,h⟩
theorem jN {b j pos}:PE X (.Constant (.bool b) j pos) (tC (.bl b)):=fun _ _ _ H _ I h=>Constant_bool ⟨.bl b,H,I,rfl,h⟩
theorem y9 {j pos}:PE X (.Constant .none j pos) (tC .non):=fun _ _ _ H _ I h=>Constant_none ⟨.non,H,I,rfl,h⟩
theorem ZH {x j pos}:PE X (.Constant (.str x) j pos) (tC (.str x)):=fun _ _ _ H _ I h=>Calls.Constant_str ⟨.str x,H,I.tok _,⟨_,rfl⟩,h⟩
def Gl (X:Cx) (x:Str):Prop:=X.env.kindOf x=some .globalImplicit
theorem ld_glob {E:Value->Shared->Prop} {pins:List (Addr × Obj)} {s:Shared} {σ:St} {H:Hp} {x:Str} {u:Value} {pos:Pos} {Q:Value->Shared->Prop} (I:Inv X pins σ H s) (hg:Gl X x) (hm:X.mg x=some u) (h:Q u s)
  (hd:(x == ("__debug__" : Str))=false:=by decide):wpAny (model X.prog X.w) X.A (eval (.Name x pos) X.env) Q E s:=
 Calls.Name_function_global I.ok.kind hg (Calls.loadGlobal_global (by rw [I.ok.glob]; exact I.mod.glob.keeps I.bk) hm h) hd
theorem YI {E:Value->Shared->Prop} {pins:List (Addr × Obj)} {s:Shared} {σ:St} {H:Hp} {x:Str} {u:Value} {pos:Pos} {Q:Value->Shared->Prop} (I:Inv X pins σ H s) (hg:Gl X x) (hm:X.mg x=none) (hv:bootBuiltins x=some u) (h:Q u s)
  (hn:x≠"__name__":=by decide) (hd:(x == ("__debug__" : Str))=false:=by decide):wpAny (model X.prog X.w) X.A (eval (.Name x pos) X.env) Q E s:=by
 obtain ⟨mb,h1,h2⟩:=I.mod.blt
 exact Calls.Name_function_global I.ok.kind hg (Calls.loadGlobal_builtin (by rw [I.ok.glob]; exact I.mod.glob.keeps I.bk) hm (by rw [I.ok.blt]; exact h1.keeps I.bk) ((h2 x hn).trans hv) h) hd
theorem pe_glob {x:Str} {v:V} {u:Value} {pos:Pos} (hg:Gl X x) (hm:X.mg x=some u) (r:RelV v u) (hd:(x == ("__debug__" : Str))=false:=by decide):PE X (.Name x pos) (tC v):=
 fun _ _ _ H _ I h=>ld_glob I hg hm ⟨v,H,I,r,h⟩ hd
theorem pe_bltn {x:Str} {v:V} {u:Value} {pos:Pos} (hg:Gl X x) (hm:X.mg x=none) (hv:bootBuiltins x=some u) (r:RelV v u) (hn:x≠"__name__":=by decide) (hd:(x == ("__debug__" : Str))=false:=by decide):PE X (.Name x pos) (tC v):=
 fun _ _ _ H _ I h=>YI I hg hm hv ⟨v,H,I,r,h⟩ hn hd
variable {a b:Expr} {ta tb:TE} {pos:Pos}
def tB (t:TE):TT:=fun σ H Q=>t σ H fun x H1=>∃ c,x=.bl c/\Q c H1
theorem zn {e:Expr} {t:TE} (h:PE X e t) (he:∀ whole,isTrue e X.env whole=(do let v <- whole; standAt e.pos; holding [v] (truthy v)):=by intro _; rfl):PT X e (tB t):=by
 intro pins s σ H Q I hw
 refine isTrue_plain (thn (h pins s σ H _ I hw) fun v s1 ⟨x,H1,I1,r1,q1⟩=>?_) (he _)
 obtain ⟨d,rfl,q⟩:=q1
 cases r1
 exact wpAny_truthy_bool ⟨H1,I1,q⟩
variable {tA tB':TT} {rest:List Expr}
def tAnd (t u:TT):TT:=fun σ H Q=>t σ H fun c H1=>if c=true then u σ H1 Q else Q false H1
def tOr (t u:TT):TT:=fun σ H Q=>t σ H fun c H1=>if c=true then Q true H1 else u σ H1 Q
def tNot (t:TT):TT:=fun σ H Q=>t σ H fun c H1=>Q (!c) H1
theorem je (ha:PT X a tA):PW X (.BoolOp .And [a] pos) tA:=by
 intro wh pins s σ H Q I h
 refine isTrue_and (thn (ha pins s σ H Q I h) fun c s1 e=>?_)
 cases c with
 |true=>exact isTrue_and_nil e
 |false=>exact e
theorem ym (ha:PT X a tA):PW X (.BoolOp .Or [a] pos) tA:=by
 intro wh pins s σ H Q I h
 refine isTrue_or (thn (ha pins s σ H Q I h) fun c s1 e=>?_)
 cases c with
 |false=>exact isTrue_or_nil e
 |true=>exact e
theorem ZW (ha:PT X a tA) (hb:PW X (.BoolOp .And (b::rest) pos) tB'):PW X (.BoolOp .And (a::b::rest) pos) (tAnd tA tB'):=by
 intro wh pins s σ H Q I h
 refine isTrue_and (thn (ha pins s σ H _ I h) fun c s1 zz=>?_)
 obtain ⟨H1,I1,q1⟩:=zz
 cases c with
 |true=>exact hb wh pins s1 σ H1 Q I1 q1
 |false=>exact ⟨H1,I1,q1⟩
theorem jM (ha:PT X a tA) (hb:PW X (.BoolOp .Or (b::rest) pos) tB'):PW X (.BoolOp .Or (a::b::rest) pos) (tOr tA tB'):=by
 intro wh pins s σ H Q I h
 refine isTrue_or (thn (ha pins s σ H _ I h) fun c s1 zz=>?_)
 obtain ⟨H1,I1,q1⟩:=zz
 cases c with
 |true=>exact ⟨H1,I1,q1⟩
 |false=>exact hb wh pins s1 σ H1 Q I1 q1
theorem yv (ha:PT X a tA):PT X (.UnaryOp .Not a pos) (tNot tA):=by
 intro pins s σ H Q I h
 exact isTrue_not (ha pins s σ H (fun c H1=>Q (!c) H1) I h)
def tAndV (ta tb:TE):TE:=fun σ H Q=>ta σ H fun x H1=>∃ c,x=.bl c/\if c=true then tb σ H1 Q else Q (.bl false) H1
def tOrV (ta tb:TE):TE:=fun σ H Q=>ta σ H fun x H1=>∃ c,x=.bl c/\if c=true then Q (.bl true) H1 else tb σ H1 Q
def tNotV (ta:TE):TE:=fun σ H Q=>ta σ H fun x H1=>∃ c,x=.bl c/\Q (.bl (!c)) H1
theorem yR {op} {t:TE} (h:PE X a t):PE X (.BoolOp op [a] pos) t:=fun pins s σ H Q I hw=>BoolOp_one (h pins s σ H Q I hw)
theorem yd (ha:PE X a ta) (hb:PE X (.BoolOp .And (b::rest) pos) tb):PE X (.BoolOp .And (a::b::rest) pos) (tAndV ta tb):=by
 intro pins s σ H Q I h
 refine BoolOp_and (thn (ha pins s σ H _ I h) fun v s1 zz=>?_)
 obtain ⟨x,H1,I1,r1,q1⟩:=zz
 obtain ⟨c,rfl,q1⟩:=q1
 cases r1
 refine wpAny_truthy_bool ?_
 cases c with
 |true=>exact hb pins s1 σ H1 Q I1 q1
 |false=>exact ⟨.bl false,H1,I1,rfl,q1⟩
theorem pe_or (ha:PE X a ta) (hb:PE X (.BoolOp .Or (b::rest) pos) tb):PE X (.BoolOp .Or (a::b::rest) pos) (tOrV ta tb):=by
 intro pins s σ H Q I h
 refine BoolOp_or (thn (ha pins s σ H _ I h) fun v s1 zz=>?_)
 obtain ⟨x,H1,I1,r1,q1⟩:=zz
 obtain ⟨c,rfl,q1⟩:=q1
 cases r1
 refine wpAny_truthy_bool ?_
 cases c with
 |false=>exact hb pins s1 σ H1 Q I1 q1
 |true=>exact ⟨.bl true,H1,I1,rfl,q1⟩
theorem pe_not (ha:PE X a ta):PE X (.UnaryOp .Not a pos) (tNotV ta):=by
 intro pins s σ H Q I h
 refine UnaryOp_ (thn (ha pins s σ H _ I h) fun v s1 zz=>?_)
 obtain ⟨x,H1,I1,r1,q1⟩:=zz
 obtain ⟨c,rfl,q1⟩:=q1
 cases r1
 exact not_of (wpAny_truthy_bool ⟨.bl (!c),H1,I1,rfl,q1⟩)
def tIf (t:TT) (ta tb:TE):TE:=fun σ H Q=>t σ H fun c H1=>if c=true then ta σ H1 Q else tb σ H1 Q
theorem J6 {c:Expr} (hc:PT X c tA) (ha:PE X a ta) (hb:PE X b tb):PE X (.IfExp c a b pos) (tIf tA ta tb):=by
 intro pins s σ H Q I h
 refine wpAny_IfExp (thn (hc pins s σ H _ I h) fun d s1 zz=>?_)
 obtain ⟨H1,I1,q1⟩:=zz
 cases d with
 |true=>exact ha pins s1 σ H1 Q I1 q1
 |false=>exact hb pins s1 σ H1 Q I1 q1
end
end L2
namespace L2
open PySem PySem.Spec PyProof.Rows
def SqL (K:PySem.W.Frag) (H:Hp) (a:Addr) (xs:List V):Prop:=
 Rd H a (.lst xs)\/
  ∃ (o:Obj) (its:Array Value) (n:Nat),K.lookup a=some o/\o.cls=.type "list"/\o.dict=none/\o.data=.seq its n/\its.size<=sizeLine/\Vals xs its.toList
def SqT (K:PySem.W.Frag) (H:Hp) (a:Addr) (xs:List V):Prop:=
 Rd H a (.tup xs)\/
  ∃ (o:Obj) (its:Array Value) (n:Nat),K.lookup a=some o/\o.cls=.type "tuple"/\o.data=.seq its n/\its.size<=sizeLine/\Vals xs its.toList
def absV:Value->Option V
 |.none=>some .non
 |.bool b=>some (.bl b)
 |.int i _=>some (.int i)
 |.str x _=>some (.str x)
 |.bytes b _=>some (.byt b)
 |.float b _=>some (.flt b)
 |.ref a=>some (.ref a)
 |.type n=>some (.ty n)
 |_=>none
theorem RelV.abs {x:V} {u:Value} (r:RelV x u):absV u=some x:=by
 cases x with
 |non=>cases r; rfl
 |bl _=>cases r; rfl
 |int _=>obtain ⟨t,rfl⟩:=r; rfl
 |str _=>obtain ⟨t,rfl⟩:=r; rfl
 |byt _=>obtain ⟨t,rfl⟩:=r; rfl
 |flt _=>obtain ⟨t,rfl⟩:=r; rfl
 |ref _=>cases r; rfl
 |ty _=>cases r; rfl
theorem RelV.inj {x y:V} {u:Value} (r:RelV x u) (q:RelV y u):x=y:=Option.some.inj (r.abs.symm.trans q.abs)
theorem Vals.inj:∀ {xs ys:List V} {us:List Value},Vals xs us->Vals ys us->xs=ys
 |_,_,_,.nil,.nil=>rfl
 |_,_,_,.cons r t,.cons r' t'=>by rw [r.inj r',Vals.inj t t']
section
variable {X:Cx} {pins:List (Addr × Obj)} {σ:St} {H:Hp} {s:Shared} {a:Addr} {xs ys:List V}
theorem SqL.of {K:PySem.W.Frag} (h:H a=some (.lst xs)):SqL K H a xs:=.inl (.inl h)
theorem SqT.of {K:PySem.W.Frag} (h:H a=some (.tup xs)):SqT K H a xs:=.inl (.inl h)
theorem Inv.list (I:Inv X pins σ H s) (h:SqL X.K H a xs):∃ its:List Value,Vals xs its/\PlainL s.heap a its.toArray/\xs.length<=sizeLine:=by
 rcases h with h|⟨o,its,n,hk,hc,hd,hs,hz,r⟩
 ·obtain ⟨z,its,n,r,e⟩:=h.ok I.hok
  exact ⟨its,r,⟨_,n,e,rfl,rfl,rfl⟩,z⟩
 ·refine ⟨its.toList,r,⟨o,n,I.kIn a o hk,hc,hd,by simpa using hs⟩,?_⟩
  have e:=r.length
  simp only [Array.length_toList] at e
  omega
theorem Inv.tuple (I:Inv X pins σ H s) (h:SqT X.K H a xs):∃ its:List Value,Vals xs its/\IsTup s.heap a its.toArray/\xs.length<=sizeLine:=by
 rcases h with h|⟨o,its,n,hk,hc,hs,hz,r⟩
 ·obtain ⟨z,its,r,p⟩:=h.ok I.hok
  exact ⟨its,r,p,z⟩
 ·refine ⟨its.toList,r,⟨o,I.kIn a o hk,hc,n,by simpa using hs⟩,?_⟩
  have e:=r.length
  simp only [Array.length_toList] at e
  omega
theorem Inv.list_inj (I:Inv X pins σ H s) (h:SqL X.K H a xs) (h':SqL X.K H a ys):xs=ys:=by
 obtain ⟨its,r,⟨o,n,e,_,_,d⟩,_⟩:=I.list h
 obtain ⟨its',r',⟨o',n',e',_,_,d'⟩,_⟩:=I.list h'
 rw [e] at e'; cases e'
 rw [d] at d'
 injection d' with d1 _
 have:its=its':=by simpa using congrArg Array.toList d1
 subst this
 exact r.inj r'
theorem Inv.tuple_inj (I:Inv X pins σ H s) (h:SqT X.K H a xs) (h':SqT X.K H a ys):xs=ys:=by
 obtain ⟨its,r,⟨o,e,_,n,d⟩,_⟩:=I.tuple h
 obtain ⟨its',r',⟨o',e',_,n',d'⟩,_⟩:=I.tuple h'
 rw [e] at e'; cases e'
 rw [d] at d'
 injection d' with d1 _
 have:its=its':=by simpa using congrArg Array.toList d1
 subst this
 exact r.inj r'
end
abbrev Cx.wish (X:Cx) (E:Value->Shared->Prop):Cx:={X with xe:=E}
abbrev Cx.nox (X:Cx):Cx:=X.wish fun _ _=>False
theorem Cx.Ok.wish {X:Cx} (ok:X.Ok) (E:Value->Shared->Prop):(X.wish E).Ok:=
 ⟨ok.mod,ok.kind,ok.glob,ok.blt,ok.above,ok.inj,ok.has,ok.cab,ok.hd,ok.frames,ok.stk,ok.exf,ok.bs,ok.bsz,ok.noex,ok.exfs,ok.funs,ok.frf⟩
theorem Cx.Ok.unwish {X:Cx} {E:Value->Shared->Prop} (ok:(X.wish E).Ok):X.Ok:=
 ⟨ok.mod,ok.kind,ok.glob,ok.blt,ok.above,ok.inj,ok.has,ok.cab,ok.hd,ok.frames,ok.stk,ok.exf,ok.bs,ok.bsz,ok.noex,ok.exfs,ok.funs,ok.frf⟩
section
variable {X:Cx} {pins:List (Addr × Obj)} {σ:St} {H:Hp} {s:Shared} {E:Value->Shared->Prop}
theorem Inv.wish (I:Inv X pins σ H s) (E:Value->Shared->Prop):Inv (X.wish E) pins σ H s:=⟨I.ok.wish E,I.os,I.bare,I.base,I.loc,I.cell,I.free,I.freeC,I.pin,I.hok,I.len⟩
theorem Inv.unwish (I:Inv (X.wish E) pins σ H s):Inv X pins σ H s:=⟨I.ok.unwish,I.os,I.bare,I.base,I.loc,I.cell,I.free,I.freeC,I.pin,I.hok,I.len⟩
theorem SP.unwish {D:Ends} {f:Flow} {s':Shared} (h:SP (X.wish E) pins D f s'):SP X pins D f s':=by
 cases f with
 |next=>obtain ⟨σ',H',I,q⟩:=h; exact ⟨σ',H',I.unwish,q⟩
 |brk=>obtain ⟨σ',H',I,q⟩:=h; exact ⟨σ',H',I.unwish,q⟩
 |cont=>obtain ⟨σ',H',I,q⟩:=h; exact ⟨σ',H',I.unwish,q⟩
 |ret u=>obtain ⟨v,σ',H',I,r,q⟩:=h; exact ⟨v,σ',H',I.unwish,r,q⟩
theorem PSs.nox {st:List Stmt} {t:TS} (h:PSs X.nox st t):PSs X st t:=fun pins s σ H D I hw=>
 wpAny_mono (h pins s σ H D (I.wish _) hw) (fun _ _ q=>q.unwish) fun _ _ z=>False.elim z
end
section
variable {X:Cx} {st:Stmt} {rest:List Stmt} {t u:TS} {e:Expr} {te:TE} {pos:Pos}
def tNext:TS:=fun D σ H=>D.nx σ H
def tSeq (t u:TS):TS:=fun D σ H=>t {D with nx:=u D} σ H
theorem zU:PSs X [] tNext:=fun _ _ σ H _ I h=>wpAny_execs_nil ⟨σ,H,I,h⟩
theorem zE (h1:PS X st t) (h2:PSs X rest u):PSs X (st::rest) (tSeq t u):=by
 intro pins s σ H D I h
 refine wpAny_execs_cons (thn (h1 pins s σ H {D with nx:=u D} I h) fun f s1 q=>?_)
 cases f with
 |next=>
  obtain ⟨σ',H',I',q⟩:=q
  exact h2 pins s1 σ' H' D I' q
 |ret v=>exact q
 |brk=>exact q
 |cont=>exact q
theorem zF (h1:PS X st t):PSs X [st] t:=by
 intro pins s σ H D I h
 refine wpAny_execs_cons (thn (h1 pins s σ H D I h) fun f s1 q=>?_)
 cases f with
 |next=>exact wpAny_execs_nil q
 |ret v=>exact q
 |brk=>exact q
 |cont=>exact q
theorem Inv.quiet {pins:List (Addr × Obj)} {σ:St} {H:Hp} {s:Shared} (I:Inv X pins σ H s):interactive X.env=false:=by simp [interactive,I.ok.kind]
def tDrop (te:TE):TS:=fun D σ H=>te σ H fun _ H1=>D.nx σ H1
theorem yJ (he:PE X e te) (hs:swapsWith e none pos.line X.env=pure false:=by rfl):PS X (.Expr e pos) (tDrop te):=by
 intro pins s σ H D I h
 exact wpAny_Expr_any (thn (he pins s σ H _ I h) fun v s1 ⟨x,H1,I1,r1,q1⟩=>⟨σ,H1,I1,q1⟩) I.quiet hs
def tRet (te:TE):TS:=fun D σ H=>te σ H D.rt
theorem zM (he:PE X e te):PS X (.Return (some e) pos) (tRet te):=by
 intro pins s σ H D I h
 exact wpAny_Return_some (thn (he pins s σ H _ I h) fun v s1 ⟨x,H1,I1,r1,q1⟩=>⟨x,σ,H1,I1,r1,q1⟩)
def tIfS (c:TT) (t u:TS):TS:=fun D σ H=>c σ H fun b H1=>if b=true then t D σ H1 else u D σ H1
theorem zh {c:Expr} {a b:List Stmt} {tc:TT} (hc:PT X c tc) (ha:PSs X a t) (hb:PSs X b u):PS X (.If c a b pos) (tIfS tc t u):=by
 intro pins s σ H D I h
 refine wpAny_If (thn (hc pins s σ H _ I h) fun d s1 zz=>?_)
 obtain ⟨H1,I1,q1⟩:=zz
 cases d with
 |true=>exact ha pins s1 σ H1 D I1 q1
 |false=>exact hb pins s1 σ H1 D I1 q1
def tNever:TS:=fun _ _ _=>False
theorem jI:PS X st tNever:=fun _ _ _ _ _ _ h=>h.elim
theorem pss_never {sts:List Stmt}:PSs X sts tNever:=fun _ _ _ _ _ _ h=>h.elim
end
abbrev TG:=V->St->Hp->(St->Hp->Prop)->Prop
abbrev TGs:=List V->St->Hp->(St->Hp->Prop)->Prop
def PG (X:Cx) (target:Expr) (t:TG):Prop:=
 ∀ (pins:List (Addr × Obj)) (s:Shared) (σ:St) (H:Hp) (v:V) (u:Value) (Q:St->Hp->Prop),Inv X pins σ H s->RelV v u->t v σ H Q->
  wpAny (model X.prog X.w) X.A (assign target X.env u) (fun _ s'=>∃ σ' H',Inv X pins σ' H' s'/\Q σ' H') X.xe s
def PGs (X:Cx) (ts:List Expr) (t:TGs):Prop:=
 ∀ (pins:List (Addr × Obj)) (s:Shared) (σ:St) (H:Hp) (vs:List V) (us:List Value) (Q:St->Hp->Prop),Inv X pins σ H s->Vals vs us->t vs σ H Q->
  wpAny (model X.prog X.w) X.A (assignInOrder ((assignEach ts X.env).map (·.2)) us) (fun _ s'=>∃ σ' H',Inv X pins σ' H' s'/\Q σ' H') X.xe s
abbrev TSet:=V->V->V->Hp->(Hp->Prop)->Prop
def PSet (X:Cx) (t:TSet):Prop:=
 ∀ (pins:List (Addr × Obj)) (s:Shared) (σ:St) (H:Hp) (o i v:V) (ov iv u:Value) (Q:Hp->Prop),Inv X pins σ H s->RelV o ov->RelV i iv->RelV v u->t o i v H Q->
  wpAny (model X.prog X.w) X.A (setItem ov iv u) (fun _ s'=>∃ H',Inv X pins σ H' s'/\Q H') X.xe s
section
variable {X:Cx} {pos:Pos}
def gName (i:Nat):TG:=fun v σ H Q=>Q (σ.set i (some v)) H
theorem za {i:Nat} {x:Str} (hN:X.N.Nodup) (hi:X.N[i]?=some x) (hx:Loc X.env.scope x) (hf:X.fn x=true\/X.env.scope.names.lookup x=some .local:=by first|exact .inl rfl|exact .inr rfl|assumption):PG X (.Name x pos) (gName i):=by
 intro pins s σ H v u Q I r h
 exact wpAny_assign_Name (Yk I hN hi hx r (fun s' I'=>⟨_,H,I',h⟩) hf)
def gNil:TGs:=fun vs σ H Q=>vs=[]/\Q σ H
def gCons (t:TG) (u:TGs):TGs:=fun vs σ H Q=>∃ v r,vs=v::r/\t v σ H fun σ' H'=>u r σ' H' Q
theorem pgs_nil:PGs X [] gNil:=by
 intro pins s σ H vs us Q I r h
 obtain ⟨e,h⟩:=h
 subst e
 cases r
 exact assignInOrder_nil ⟨σ,H,I,h⟩
theorem ye {e:Expr} {es:List Expr} {t:TG} {u:TGs} (h1:PG X e t) (h2:PGs X es u)
  (hs:(assignEach (e::es) X.env).map (·.2)=assign e X.env::(assignEach es X.env).map (·.2):=by rfl):PGs X (e::es) (gCons t u):=by
 intro pins s σ H vs us Q I r h
 obtain ⟨v,vr,e1,h⟩:=h
 subst e1
 cases r with
 |cons r rr=>
  rw [hs]
  refine assignInOrder_cons (thn (h1 pins s σ H _ _ _ I r h) fun _ s1 zz=>?_)
  obtain ⟨σ1,H1,I1,q1⟩:=zz
  exact h2 pins s1 σ1 H1 _ _ Q I1 rr q1
def gTup (K:PySem.W.Frag) (n:Nat) (t:TGs):TG:=fun v σ H Q=>∃ a xs,v=.ref a/\SqT K H a xs/\xs.length=n/\t xs σ H Q
theorem pg_tup {es:List Expr} {k:Nat} {t:TGs} {n:Nat} (hc:X.calm=true) (h:PGs X es t)
  (hn:(assignEach es X.env).length=n:=by rfl) (hst:(assignEach es X.env).findIdx? (·.1)=none:=by rfl):PG X (.Tuple es k pos) (gTup X.K n t):=by
 intro pins s σ H v u Q I r hw
 obtain ⟨a,xs,e1,hq,hl,hw⟩:=hw
 subst e1
 cases r
 obtain ⟨its,rv,ht,hz⟩:=I.tuple hq
 refine assign_Tuple_tuple (I.ok.hd hc) ht (by simp [hn,<- hl,rv.length]) hst fun h' hx=>?_
 have I1:Inv X pins σ H {s with heap:=h'}:=I.kept (t':=s.toks) fun b o e=>hx b o (Nat.ne_of_lt (Heap.lt_size e)) e
 exact h pins _ σ H xs _ Q I1 (by simpa using rv) hw
def gSub (to ti:TE) (t:TSet):TG:=fun v σ H Q=>to σ H fun o H1=>ti σ H1 fun i H2=>t o i v H2 fun H3=>Q σ H3
theorem Y0 {o i:Expr} {to ti:TE} {t:TSet} (ho:PE X o to) (hi:PE X i ti) (hs:PSet X t)
  (ha:∀ v,assign (.Subscript o i pos) X.env v=(do
   let ov <- holding [v] (eval o X.env)
   let iv <- holding [v,ov] (eval i X.env)
   standAt pos
   holding [v,ov,iv] (setItem ov iv v)
   release [v,ov,iv] []):=by intro _; rfl):PG X (.Subscript o i pos) (gSub to ti t):=by
 intro pins s σ H v u Q I r h
 rw [ha]
 refine wpAny_bind (wpAny_holding (thn (ho pins s σ H _ I h) fun ov s1 zz=>?_))
 obtain ⟨x,H1,I1,r1,q1⟩:=zz
 refine wpAny_bind (wpAny_holding (thn (hi pins s1 σ H1 _ I1 q1) fun iv s2 zz=>?_))
 obtain ⟨y,H2,I2,r2,q2⟩:=zz
 refine wpAny_bind (wpAny_standAt (wpAny_bind (wpAny_holding (thn (hs pins s2 σ H2 x y v ov iv u _ I2 r1 r2 r q2) fun _ s3 zz=>?_))))
 obtain ⟨H3,I3,q3⟩:=zz
 exact wpAny_release ⟨σ,H3,I3,q3⟩
def tAsg (te:TE) (g:TG):TS:=fun D σ H=>te σ H fun x H1=>g x σ H1 D.nx
theorem YK {tg e:Expr} {te:TE} {g:TG} (he:PE X e te) (hg:PG X tg g) (hs:swapsWithSole [tg] e pos.line X.env=pure false:=by rfl) (hw:swappedStores [tg] e X.env=pure none:=by rfl)
  (h1:(assignEach [tg] X.env).map (·.2)=[assign tg X.env]:=by rfl):PS X (.Assign [tg] e pos) (tAsg te g):=by
 intro pins s σ H D I h
 refine wpAny_Assign_stores (thn (he pins s σ H _ I h) fun v s1 ⟨x,H1,I1,r1,q1⟩=>?_) hs hw
 rw [h1]
 exact thn (hg pins s1 σ H1 x v _ I1 r1 q1) fun _ s2 q=>q
theorem zN {i:Nat} {x:Str} {e:Expr} {te:TE} {pos':Pos} (hN:X.N.Nodup) (hi:X.N[i]?=some x) (hx:Loc X.env.scope x) (he:PE X e te) (hs:swapsWith e (some (.Name x pos')) pos.line X.env=pure false:=by rfl) (hf:X.fn x=true\/X.env.scope.names.lookup x=some .local:=by first|exact .inl rfl|exact .inr rfl|assumption) :
  PS X (.Assign [.Name x pos'] e pos) (tAsg te (gName i)):=by
 intro pins s σ H D I h
 refine wpAny_Assign_Name (thn (he pins s σ H _ I h) fun v s1 ⟨y,H1,I1,r1,q1⟩=>?_) hs
 exact Yk I1 hN hi hx r1 (fun s2 I2=>⟨_,H1,I2,q1⟩) hf
def tPar (i j:Nat) (ta:TA):TS:=fun D σ H=>ta σ H fun vs H1=>∃ v w,vs=[v,w]/\D.nx ((σ.set i (some v)).set j (some w)) H1
theorem ps_par {i j:Nat} {x y:Str} {a b:Expr} {ta:TA} {px py pt:Pos} {kt k2 pt2} (hc:X.calm=true) (hN:X.N.Nodup) (hi:X.N[i]?=some x) (hj:X.N[j]?=some y) (hij:i≠j)
  (hx:X.env.scope.names.lookup x=some .local) (hy:X.env.scope.names.lookup y=some .local) (ha:PA X [a,b] ta)
  (hw:swappedStores [.Tuple [.Name x px,.Name y py] kt pt] (.Tuple [a,b] k2 pt2) X.env=pure (some [x,y]))
  (hs:swapsWithSole [.Tuple [.Name x px,.Name y py] kt pt] (.Tuple [a,b] k2 pt2) pos.line X.env=pure false:=by rfl) :
  PS X (.Assign [.Tuple [.Name x px,.Name y py] kt pt] (.Tuple [a,b] k2 pt2) pos) (tPar i j ta):=by
 intro pins s σ H D I h
 rw [exec_Assign_arm]
 refine wpAny_bind (wpAny_standAt ?_)
 rw [hs]
 refine wpAny_bind (wpAny_pure ?_)
 rw [if_neg (by decide)]
 refine wpAny_bind (Tuple_ (thn (ha _ pins s σ H _ I h) fun us s1 zz=>?_))
 obtain ⟨vs,H1,I1,r1,q1⟩:=zz
 obtain ⟨v,w,e1,q1⟩:=q1
 subst e1
 obtain ⟨u1,u2,rfl,rv,rw'⟩:∃ u1 u2,us=[u1,u2]/\RelV v u1/\RelV w u2:=by
  cases r1 with
  |cons p q=>
   cases q with
   |cons p' q'=>
    cases q'
    exact ⟨_,_,rfl,p,p'⟩
 refine wpAny_newObj_type ?_ (by show 2<=sizeLine; decide)
 have I2:Inv X pins σ H1 {s1 with heap:=s1.heap.push {cls:=.type "tuple",data:=.seq [u1,u2].toArray}}:=I1.kept (t':=s1.toks) fun b o e=>Heap.get?_push_of_some _ e
 rw [hw]
 refine wpAny_bind (wpAny_pure ?_)
 show wpAny (model X.prog X.w) X.A (do rule "assign.swapped-stores"; let items <- unpackItems (.ref s1.heap.objs.size) 2 none; assignInOrder [fun v=>bindName X.env y v,fun v=>bindName X.env x v] items.reverse; pure Flow.next) _ _ _
 refine wpAny_bind (wpAny_rule (wpAny_bind (unpackItems_tuple (items:=#[u1,u2]) (I.ok.hd hc) (IsTup.new s1.heap _) fun h' hx'=>?_)))
 have I3:=I2.kept (h':=h') (t':=s1.toks) fun b o e=>hx' b o (Nat.ne_of_lt (Heap.lt_size e)) e
 show wpAny _ _ (assignInOrder [fun v=>bindName X.env y v,fun v=>bindName X.env x v] [u2,u1] >>= fun _=>pure Flow.next) _ _ _
 refine wpAny_bind (assignInOrder_cons (wpAny_bindName (Yk I3 hN hj (.inl hy) rw' (fun s2 I4=>?_) (.inr hy))))
 refine assignInOrder_cons (wpAny_bindName (Yk I4 hN hi (.inl hx) rv (fun s3 I5=>assignInOrder_nil (wpAny_pure ?_)) (.inr hx)))
 rw [List.set_comm _ _ (Ne.symm hij)] at I5
 exact ⟨_,H1,I5,q1⟩
end
section
variable {X:Cx} {pos:Pos}
def tWhile (c:TT) (tb:TS):TS:=fun D σ H=>∃ W:Nat->St->Hp->Prop,(∃ m,W m σ H)/\∀ m σ H,W m σ H->
 c σ H fun b H1=>if b=true then ∃ N:St->Hp->Prop,(∀ σ' H',N σ' H'->∃ m',m' < m/\W m' σ' H')/\tb {D with nx:=N,ct:=N,bk:=D.nx} σ H1 else D.nx σ H1
theorem Zv {c:Expr} {body:List Stmt} {tc:TT} {tb:TS} (hp:PassesOwn (model X.prog X.w) X.A X.env X.xe) (hc:PT X c tc) (hb:PSs X body tb):PS X (.While c body [] pos) (tWhile tc tb):=by
 intro pins s σ H D I h
 obtain ⟨W,⟨m0,w0⟩,turn⟩:=h
 refine wpAny_While (codeAny_whileLoop (fun n s'=>∃ σ' H',Inv X pins σ' H' s'/\W n σ' H') ?_ m0 ⟨σ,H,I,w0⟩)
 rintro n s1 ⟨σ1,H1,I1,w1⟩
 refine wpAny_passesOwn hp (thn (hc pins s1 σ1 H1 _ I1 (turn n σ1 H1 w1)) fun b s2 zz=>?_)
 obtain ⟨H2,I2,q2⟩:=zz
 cases b with
 |true=>
  obtain ⟨N,hN,q2⟩:=q2
  rw [if_pos rfl]
  refine wpAny_passesOwn hp (thn (hb pins s2 σ1 H2 _ I2 q2) fun f s3 q3=>?_)
  cases f with
  |next=>
   obtain ⟨σ3,H3,I3,n3⟩:=q3
   obtain ⟨m',hm,w3⟩:=hN σ3 H3 n3
   exact ⟨m',hm,σ3,H3,I3,w3⟩
  |cont=>
   obtain ⟨σ3,H3,I3,n3⟩:=q3
   obtain ⟨m',hm,w3⟩:=hN σ3 H3 n3
   exact ⟨m',hm,σ3,H3,I3,w3⟩
  |brk=>exact q3
  |ret v=>exact q3
 |false=>
  rw [if_neg Bool.false_ne_true]
  exact wpAny_execs_nil ⟨σ1,H2,I2,q2⟩
end
structure It where
 go:Nat->Hp->Prop
 yld:Nat->Hp->V->Hp->Prop
 stop:Nat->Hp->Prop
def FpOk (X:Cx) (pins:List (Addr × Obj)) (H:Hp) (b:Addr):Prop:=
 H b=none/\b≠X.env.locals/\b∉X.fs/\(b∈X.ex\/X.s₀.heap.objs.size<=b)/\(∀ x c,X.env.cells.lookup x=some c->c≠b)/\∀ p∈X.pn++pins,p.1≠b
theorem Inv.fpOk {X:Cx} {pins:List (Addr × Obj)} {σ:St} {H H':Hp} {s:Shared} {b:Addr} (I:Inv X pins σ H s) (hb:s.heap.objs.size<=b) (hn:H' b=none):FpOk X pins H' b:=by
 refine ⟨hn,Nat.ne_of_gt (Nat.lt_of_lt_of_le I.lt hb),I.nofs hb,.inr (Nat.le_trans I.sz hb),fun x c e z=>?_,fun p hp z=>?_⟩
 ·obtain ⟨v,q⟩:=I.cell x c e
  exact absurd (Nat.lt_of_lt_of_le q.lt (by rw [z]; exact hb)) (Nat.lt_irrefl _)
 ·exact absurd (Nat.lt_of_lt_of_le (Heap.lt_size (I.pin p hp).1) (by rw [z]; exact hb)) (Nat.lt_irrefl _)
structure Turn (P:Program) (w:World) (K:PySem.W.Frag) (tg:Expr) (J:It) (fp:List Addr) (it:Addr) (tn:Nat->Heap->Prop):Prop where
 mem:it∈fp
 obj:∀ i h,tn i h->∀ b∈fp,∃ o,h.get? b=some o/\∀ v,o.data≠.cell v
 keep:∀ i h h',tn i h->(∀ b∈fp,∀ o,h.get? b=some o->h'.get? b=some o)->tn i h'
 item:∀ (X:Cx),X.prog=P->X.w=w->X.K=K->X.calm=true->∀ (i:Nat) (pins:List (Addr × Obj)) (s:Shared) (σ:St) (H:Hp) (E:Value->Shared->Prop),Inv X pins σ H s->(∀ b∈fp,FpOk X pins H b)->tn i s.heap->J.go i H->
  wpAny (model P w) X.A (pyNext (.ref it)) (fun r s1=>∃ u,r=some u/\
   wpAny (model P w) X.A (letOwnedTupleGo tg (.ref it) u) (fun _ s2=>∃ x H',Inv X pins σ H' s2/\RelV x u/\J.yld i H x H'/\tn (i+1) s2.heap/\∀ b∈fp,H' b=none) E s1) E s
 done:∀ (X:Cx),X.prog=P->X.w=w->X.K=K->X.calm=true->∀ (i:Nat) (pins:List (Addr × Obj)) (s:Shared) (σ:St) (H:Hp) (E:Value->Shared->Prop),Inv X pins σ H s->(∀ b∈fp,FpOk X pins H b)->tn i s.heap->J.stop i H->
  wpAny (model P w) X.A (pyNext (.ref it)) (fun r s1=>r=none/\Inv X pins σ H s1) E s
 self:∀ (A:Around) (i:Nat) (s:Shared) (Q:Value->Shared->Prop) (E:Value->Shared->Prop),tn i s.heap->Q (.ref it) s->wpAny (model P w) A (pyIter (.ref it)) Q E s
abbrev TI:=St->Hp->(It->Hp->Prop)->Prop
def PIE (X:Cx) (pins:List (Addr × Obj)) (σ:St) (tg:Expr) (R:It->Hp->Prop) (itv:Value) (s2:Shared):Prop:=
 ∃ (it:Addr) (fp:List Addr) (tn:Nat->Heap->Prop) (J:It) (H':Hp),itv=.ref it/\Inv X pins σ H' s2/\Turn X.prog X.w X.K tg J fp it tn/\tn 0 s2.heap/\(∀ b∈fp,FpOk X pins H' b)/\R J H'
def PI (X:Cx) (tg iter:Expr) (wi:TI):Prop:=
 ∀ (pins:List (Addr × Obj)) (s:Shared) (σ:St) (H:Hp) (R:It->Hp->Prop),Inv X pins σ H s->wi σ H R->
  wpAny (model X.prog X.w) X.A (eval iter X.env) (fun v s1=>wpAny (model X.prog X.w) X.A (pyIter v) (PIE X pins σ tg R) X.xe s1) X.xe s
theorem go_of {M:Model} {A:Around} {E:Value->Shared->Prop} {s:Shared} {tg:Expr} {it:Addr} {u:Value} {o:Obj} {n:String} {vs:Array Value} {Q:Unit->Shared->Prop} (ho:s.heap.get? it=some o) (hc:o.cls=.type n) (hd:o.data=.fields vs)
  (hn:["enumerate","zip","dict_itemiterator","dict_reverseitemiterator","odict_iterator","itertools.zip_longest","itertools.pairwise"].contains n=false) (hQ:Q () s):wpAny M A (letOwnedTupleGo tg (.ref it) u) Q E s:=by
 unfold letOwnedTupleGo
 cases tg<;>first
  |exact wpAny_pure hQ
  | (cases u<;>first
    |exact wpAny_pure hQ
    | (refine wpAny_bind (wpAny_load ho ?_)
       rw [hc,hd]
       show wpAny M A (if (["enumerate","zip","dict_itemiterator","dict_reverseitemiterator","odict_iterator","itertools.zip_longest","itertools.pairwise"].contains n && vs[0]? == some (rawInt _))=true then _ else _) Q E s
       rw [if_neg (by intro h; rw [hn,Bool.false_and] at h; cases h)]
       exact wpAny_pure hQ))
def Itl (K:PySem.W.Frag) (a:Addr):It:=
 ⟨fun i H=>∃ xs x,SqL K H a xs/\xs[i]?=some x,fun i H x H'=>H'=H/\∀ xs,SqL K H a xs->xs[i]?=some x,fun i H=>∃ xs,SqL K H a xs/\xs.length<=i⟩
def Itt (K:PySem.W.Frag) (a:Addr):It:=
 ⟨fun i H=>∃ xs x,SqT K H a xs/\xs[i]?=some x,fun i H x H'=>H'=H/\∀ xs,SqT K H a xs->xs[i]?=some x,fun i H=>∃ xs,SqT K H a xs/\xs.length<=i⟩
def Itr (lo:Int) (n:Nat):It:=⟨fun i _=>i < n,fun i H x H'=>H'=H/\x=.int (lo+i),fun i _=>n<=i⟩
theorem turn_list {P:Program} {w:World} {K:PySem.W.Frag} {tg:Expr} (a it:Addr):Turn P w K tg (Itl K a) [it] it (fun i h=>h.IsListIter it a i) where
 mem:=by simp
 obj:=fun i h st b hb=>by
  have e:b=it:=by simpa using hb
  subst e
  obtain ⟨o,e,c,d⟩:=st
  exact ⟨o,e,fun v z=>by rw [d] at z; cases z⟩
 keep:=fun i h h' st k=>st.at fun o e=>k it (by simp) o e
 item:=by
  intro X hP hw hK hc i pins s σ H E I hf st hg
  subst hP hw hK
  obtain ⟨xs,x,hq,hx⟩:=hg
  obtain ⟨its,rv,p,hz⟩:=I.list hq
  obtain ⟨u,hu,ru⟩:=rv.get hx
  obtain ⟨f0,f1,f2,f3,f4,f5⟩:=hf it (by simp)
  refine wpAny_pyNext_list_item st p.isList (x:=u) (by simpa using hu) fun h' st' sb=>?_
  have I1:Inv X pins σ H {s with heap:=h'}:=I.turned (t':=s.toks) (fun b o hb e=>(sb.2 b hb).trans e) f0 f1 f3 f4 f5
  obtain ⟨o,e,c,d⟩:=id st'
  exact ⟨u,rfl,go_of (s:={s with heap:=h'}) e c d (by decide) ⟨x,H,I1,ru,⟨rfl,fun ys hy=>by rw [I.list_inj hy hq]; exact hx⟩,st',fun b hb=>(hf b hb).1⟩⟩
 done:=by
  intro X hP hw hK hc i pins s σ H E I hf st hg
  subst hP hw hK
  obtain ⟨xs,hq,hx⟩:=hg
  obtain ⟨its,rv,p,hz⟩:=I.list hq
  obtain ⟨f0,f1,f2,f3,f4,f5⟩:=hf it (by simp)
  have hl:=rv.length
  exact wpAny_pyNext_list_end (I.ok.hd hc) st p.isList (by simp; omega) fun h' eb=>⟨rfl,I.turned (t':=s.toks) (fun b o hb e=>eb b o hb e) f0 f1 f3 f4 f5⟩
 self:=fun _ _ _ _ _ st h=>wpAny_pyIter_listiter st h
theorem turn_tuple {P:Program} {w:World} {K:PySem.W.Frag} {tg:Expr} (a it:Addr):Turn P w K tg (Itt K a) [it] it (fun i h=>h.IsTupleIter it a i) where
 mem:=by simp
 obj:=fun i h st b hb=>by
  have e:b=it:=by simpa using hb
  subst e
  obtain ⟨o,e,c,d⟩:=st
  exact ⟨o,e,fun v z=>by rw [d] at z; cases z⟩
 keep:=fun i h h' st k=>st.at fun o e=>k it (by simp) o e
 item:=by
  intro X hP hw hK hc i pins s σ H E I hf st hg
  subst hP hw hK
  obtain ⟨xs,x,hq,hx⟩:=hg
  obtain ⟨its,rv,p,hz⟩:=I.tuple hq
  obtain ⟨u,hu,ru⟩:=rv.get hx
  obtain ⟨f0,f1,f2,f3,f4,f5⟩:=hf it (by simp)
  refine wpAny_pyNext_tuple_item st (show s.heap.IsTuple a its.toArray from p) (x:=u) (by simpa using hu) fun h' st' sb=>?_
  have I1:Inv X pins σ H {s with heap:=h'}:=I.turned (t':=s.toks) (fun b o hb e=>(sb.2 b hb).trans e) f0 f1 f3 f4 f5
  obtain ⟨o,e,c,d⟩:=id st'
  exact ⟨u,rfl,go_of (s:={s with heap:=h'}) e c d (by decide) ⟨x,H,I1,ru,⟨rfl,fun ys hy=>by rw [I.tuple_inj hy hq]; exact hx⟩,st',fun b hb=>(hf b hb).1⟩⟩
 done:=by
  intro X hP hw hK hc i pins s σ H E I hf st hg
  subst hP hw hK
  obtain ⟨xs,hq,hx⟩:=hg
  obtain ⟨its,rv,p,hz⟩:=I.tuple hq
  obtain ⟨f0,f1,f2,f3,f4,f5⟩:=hf it (by simp)
  have hl:=rv.length
  exact wpAny_pyNext_tuple_end (I.ok.hd hc) st (show s.heap.IsTuple a its.toArray from p) (by simp; omega) fun h' eb=>⟨rfl,I.turned (t':=s.toks) (fun b o hb e=>eb b o hb e) f0 f1 f3 f4 f5⟩
 self:=fun _ _ _ _ _ st h=>wpAny_pyIter_tupleiter st h
theorem turn_range {P:Program} {w:World} {K:PySem.W.Frag} {tg:Expr} (it:Addr) (lo:Int) (n:Nat):Turn P w K tg (Itr lo n) [it] it (fun i h=>IsRangeIter h it (lo+(i:Nat) * 1) ((n:Int) - (i:Nat)) 1) where
 mem:=by simp
 obj:=fun i h st b hb=>by
  have e:b=it:=by simpa using hb
  subst e
  exact ⟨_,st,fun v z=>by
   have z':Data.fields _=Data.cell v:=z
   cases z'⟩
 keep:=fun i h h' st k=>k it (by simp) _ st
 item:=by
  intro X hP hw hK hc i pins s σ H E I hf st hg
  subst hP hw hK
  obtain ⟨f0,f1,f2,f3,f4,f5⟩:=hf it (by simp)
  have W:=Walks.range (prog:=X.prog) (w:=X.w) (I.ok.hd hc) it lo 1 n
  refine W.item i s _ _ hg st fun v h' tk hv st' kk=>?_
  obtain ⟨t,rfl⟩:=hv
  have I1:Inv X pins σ H {s with heap:=h',toks:=tk}:=I.turned (fun b o hb e=>kk b o (by simpa using hb) e) f0 f1 f3 f4 f5
  refine ⟨_,rfl,go_of (s:={s with heap:=h',toks:=tk}) (n:="range_iterator") st' rfl rfl (by decide) ⟨.int (lo+i),H,I1,⟨t,?_⟩,⟨rfl,rfl⟩,st',fun b hb=>(hf b hb).1⟩⟩
  rw [Int.mul_one]
 done:=by
  intro X hP hw hK hc i pins s σ H E I hf st hg
  subst hP hw hK
  obtain ⟨f0,f1,f2,f3,f4,f5⟩:=hf it (by simp)
  exact wpAny_pyNext_range_end (I.ok.hd hc) st (by have:n<=i:=hg; omega) fun h' eb=>⟨rfl,I.turned (t':=s.toks) (fun b o hb e=>eb b o hb e) f0 f1 f3 f4 f5⟩
 self:=fun _ _ _ _ _ st h=>wpAny_pyIter_rangeiter st h
end L2
namespace L2
open PySem PySem.Spec PyProof.Rows
section
variable {X:Cx} {tg:Expr}
def iList (K:PySem.W.Frag) (tl:TE):TI:=fun σ H R=>tl σ H fun x H1=>∃ a,x=.ref a/\(∃ xs,SqL K H1 a xs)/\R (Itl K a) H1
def iTup (K:PySem.W.Frag) (tl:TE):TI:=fun σ H R=>tl σ H fun x H1=>∃ a,x=.ref a/\(∃ xs,SqT K H1 a xs)/\R (Itt K a) H1
theorem yU {l:Expr} {tl:TE} (hl:PE X l tl):PI X tg l (iList X.K tl):=by
 intro pins s σ H R I h
 refine thn (hl pins s σ H _ I h) fun v s1 zz=>?_
 obtain ⟨x,H1,I1,r1,q1⟩:=zz
 obtain ⟨a,e,⟨xs,hq⟩,q⟩:=q1
 subst e
 cases r1
 obtain ⟨its,rv,p,hz⟩:=I1.list hq
 refine wpAny_pyIter_list p.isList ?_
 refine ⟨s1.heap.objs.size,[s1.heap.objs.size],_,_,H1,rfl,I1.kept (t':=s1.toks) fun b o e=>Heap.get?_push_of_some _ e,turn_list a _,⟨_,Heap.get?_push_size _ rfl,rfl,rfl⟩,fun b hb=>?_,q⟩
 have e:b=s1.heap.objs.size:=by simpa using hb
 subst e
 exact I1.fpOk (Nat.le_refl _) (I1.hok.fresh (Nat.le_refl _))
theorem pi_tup {l:Expr} {tl:TE} (hl:PE X l tl):PI X tg l (iTup X.K tl):=by
 intro pins s σ H R I h
 refine thn (hl pins s σ H _ I h) fun v s1 zz=>?_
 obtain ⟨x,H1,I1,r1,q1⟩:=zz
 obtain ⟨a,e,⟨xs,hq⟩,q⟩:=q1
 subst e
 cases r1
 obtain ⟨its,rv,p,hz⟩:=I1.tuple hq
 refine wpAny_pyIter_tuple (show s1.heap.IsTuple a its.toArray from p) ?_
 refine ⟨s1.heap.objs.size,[s1.heap.objs.size],_,_,H1,rfl,I1.kept (t':=s1.toks) fun b o e=>Heap.get?_push_of_some _ e,turn_tuple a _,⟨_,Heap.get?_push_size _ rfl,rfl,rfl⟩,fun b hb=>?_,q⟩
 have e:b=s1.heap.objs.size:=by simpa using hb
 subst e
 exact I1.fpOk (Nat.le_refl _) (I1.hok.fresh (Nat.le_refl _))
theorem range_it {pins:List (Addr × Obj)} {σ:St} {H:Hp} {s:Shared} {R:It->Hp->Prop} {E:Value->Shared->Prop} {lo hi:Int} {t u v:Tok} {tk:Nat} (I:Inv X pins σ H s) (h1:-(2 ^ 62)<=lo) (h2:lo < 2 ^ 62) (h3:-(2 ^ 62)<=hi) (h4:hi < 2 ^ 62)
  (q:R (Itr lo (hi - lo).toNat) H):wpAny (model X.prog X.w) X.A (pyIter (.ref s.heap.objs.size)) (PIE X pins σ tg R) E {s with heap:=s.heap.push {cls:=.type "range",data:=.fields #[.int lo t,.int hi u,.int 1 v]},toks:=tk}:=by
 refine wpAny_pyIter_range (IsRange.new ..) (small_one h1 h2 h3 h4) ?_
 have I1:Inv X pins σ H {s with heap:=s.heap.push {cls:=.type "range",data:=.fields #[.int lo t,.int hi u,.int 1 v]},toks:=tk}:=I.kept fun b o e=>Heap.get?_push_of_some _ e
 refine ⟨(s.heap.push {cls:=.type "range",data:=.fields #[.int lo t,.int hi u,.int 1 v]}).objs.size,[(s.heap.push {cls:=.type "range",data:=.fields #[.int lo t,.int hi u,.int 1 v]}).objs.size],_,_,H,rfl,
  I1.kept (t':=tk) fun b o e=>Heap.get?_push_of_some _ e,turn_range _ lo (hi - lo).toNat,?_,fun b hb=>?_,q⟩
 ·have e1:lo+((0:Nat):Int) * 1=lo:=by simp
  have e2:(((hi - lo).toNat:Nat):Int) - ((0:Nat):Int)=Builtin.Range.rangeSize lo hi 1:=by rw [rangeSize_one]; split<;>omega
  show IsRangeIter _ _ (lo+((0:Nat):Int) * 1) ((((hi - lo).toNat:Nat):Int) - ((0:Nat):Int)) 1
  rw [e1,e2]
  exact Heap.get?_push_size _ rfl
 ·have e:b=(s.heap.push {cls:=.type "range",data:=.fields #[.int lo t,.int hi u,.int 1 v]}).objs.size:=by simpa using hb
  subst e
  exact I1.fpOk (Nat.le_refl _) (I1.hok.fresh (Nat.le_refl _))
def iRng1 (ta:TA):TI:=fun σ H R=>ta σ H fun vs H1=>∃ j:Int,vs=[.int j]/\-(2 ^ 62)<=j/\j < 2 ^ 62/\R (Itr 0 j.toNat) H1
def iRng2 (ta:TA):TI:=fun σ H R=>ta σ H fun vs H1=>∃ i j:Int,vs=[.int i,.int j]/\(-(2 ^ 62)<=i/\i < 2 ^ 62/\-(2 ^ 62)<=j/\j < 2 ^ 62)/\R (Itr i (j - i).toNat) H1
theorem yL {a:Expr} {ta:TA} {p pos:Pos} (hg:Gl X "range") (hm:X.mg "range"=none) (ha:PA X [a] ta) (hs:starEach [a] X.env=[(false,eval a X.env)]:=by rfl):PI X tg (.Call (.Name "range" p) [a] [] pos) (iRng1 ta):=by
 intro pins s σ H R I h
 refine Call_ (YI I hg hm boot_range (PyProof.Rows.callWith_type1 (thn (ha pos pins s σ H _ I h) fun us s1 ⟨vs,H1,I1,r1,q1⟩=>?_) hs rfl))
 obtain ⟨j,e,q1,q2,q⟩:=q1
 subst e
 cases r1 with
 |cons r rr=>
  cases rr
  obtain ⟨t,rfl⟩:=r
  exact call_range_1 (range_it I1 (by omega) (by omega) q1 q2 (by simpa using q))
theorem pi_range2 {a b:Expr} {ta:TA} {p pos:Pos} (hg:Gl X "range") (hm:X.mg "range"=none) (ha:PA X [a,b] ta) (hs:starEach [a,b] X.env=[(false,eval a X.env),(false,eval b X.env)]:=by rfl) (hs2:starEach [b] X.env=[(false,eval b X.env)]:=by rfl) :
  PI X tg (.Call (.Name "range" p) [a,b] [] pos) (iRng2 ta):=by
 intro pins s σ H R I h
 refine Call_ (YI I hg hm boot_range (PyProof.Rows.callWith_type1 (thn (ha pos pins s σ H _ I h) fun us s1 ⟨vs,H1,I1,r1,q1⟩=>?_) (by rw [hs,hs2]) (by rw [hs2]; rfl)))
 obtain ⟨i,j,e,⟨q1,q2,q3,q4⟩,q⟩:=q1
 subst e
 cases r1 with
 |cons r rr=>
  cases rr with
  |cons r' rr=>
   cases rr
   obtain ⟨t,rfl⟩:=r
   obtain ⟨t',rfl⟩:=r'
   exact call_range_2 (range_it I1 q1 q2 q3 q4 q)
def tFor (wi:TI) (g:TG) (tb:TS):TS:=fun D σ H=>wi σ H fun J H1=>∃ W:Nat->Nat->St->Hp->Prop,(∃ m,W 0 m σ H1)/\∀ i m σ H,W i m σ H->
 (J.stop i H/\D.nx σ H)\/(J.go i H/\∃ N:St->Hp->Prop,(∀ σ' H',N σ' H'->∃ m',m' < m/\W (i+1) m' σ' H')/\∀ x H',J.yld i H x H'->g x σ H' fun σ2 H2=>tb {D with nx:=N,ct:=N,bk:=D.nx} σ2 H2)
def pinsAt (fp:List Addr) (h:Heap):List (Addr × Obj):=fp.filterMap fun b=>(h.get? b).map fun o=>(b,o)
theorem jC {fp:List Addr} {h:Heap} {b:Addr} {o:Obj} (hb:b∈fp) (e:h.get? b=some o):(b,o)∈pinsAt fp h:=List.mem_filterMap.mpr ⟨b,hb,by rw [e]; rfl⟩
theorem of_pinsAt {fp:List Addr} {h:Heap} {p:Addr × Obj} (hp:p∈pinsAt fp h):p.1∈fp/\h.get? p.1=some p.2:=by
 obtain ⟨b,hb,e⟩:=List.mem_filterMap.mp hp
 cases q:h.get? b with
 |none=>rw [q] at e; cases e
 |some o=>
  rw [q] at e
  have e':(b,o)=p:=Option.some.inj e
  subst e'
  exact ⟨hb,q⟩
theorem Inv.pinned {pins:List (Addr × Obj)} {σ:St} {H:Hp} {s:Shared} {fp:List Addr} (I:Inv X pins σ H s) (hf:∀ b∈fp,FpOk X pins H b) (ho:∀ b∈fp,∃ o,s.heap.get? b=some o/\∀ v,o.data≠.cell v):Inv X (pins++pinsAt fp s.heap) σ H s:=
 I.pins_of fun p hp=>(List.mem_append.mp hp).elim (fun z=>I.pin p (List.mem_append_right _ z)) fun z=>by
  obtain ⟨hb,e⟩:=of_pinsAt z
  obtain ⟨f0,f1,f2,_⟩:=hf p.1 hb
  obtain ⟨o,e',d⟩:=ho p.1 hb
  rw [e] at e'; cases e'
  exact ⟨e,f0,f1,f2,d⟩
theorem Inv.unpinned {pins pl:List (Addr × Obj)} {σ:St} {H:Hp} {s:Shared} (I:Inv X (pins++pl) σ H s):Inv X pins σ H s:=I.pins_of fun p hp=>I.pin p (List.mem_append_right _ (List.mem_append_left _ hp))
theorem yF {iter:Expr} {body:List Stmt} {wi:TI} {g:TG} {tb:TS} {pos:Pos} (hp:PassesOwn (model X.prog X.w) X.A X.env X.xe) (hc:X.calm=true) (hi:PI X tg iter wi) (hg:PG X tg g) (hb:PSs X body tb)
  (hs:∀ x,foldedSetIterable iter X.env x=pure x:=by intro _; rfl):PS X (.For tg iter body [] pos) (tFor wi g tb):=by
 intro pins s σ H D I h
 refine wpAny_For (thn (hi pins s σ H _ I h) fun v s1 h1=>thn h1 fun itv s2 h2=>?_) hs
 obtain ⟨it,fp,tn,J,H2,e,I2,T,st2,f2,W,⟨m0,w0⟩,turn⟩:=h2
 subst e
 have stat:∀ {H':Hp},(∀ b∈fp,H' b=none)->∀ b∈fp,FpOk X pins H' b:=fun hn b hb=>⟨hn b hb,(f2 b hb).2⟩
 refine codeAny_forLoop_any (fun n s'=>∃ i σ' H',Inv X pins σ' H' s'/\tn i s'.heap/\(∀ b∈fp,H' b=none)/\W i n σ' H') ?_ m0 ⟨0,σ,H2,I2,st2,fun b hb=>(f2 b hb).1,w0⟩
 rintro n s3 ⟨i,σ3,H3,I3,st3,fr3,w3⟩
 rcases turn i n σ3 H3 w3 with ⟨stop,qn⟩|⟨go,N,hN,step⟩
 ·refine wpAny_passesOwn hp (thn (T.done X rfl rfl rfl hc i pins s3 σ3 H3 X.xe I3 (stat fr3) st3 stop) fun r s4 zz=>?_)
  obtain ⟨hr,I4⟩:=zz
  subst hr
  exact wpAny_execs_nil ⟨σ3,H3,I4,qn⟩
 ·refine wpAny_passesOwn hp (thn (T.item X rfl rfl rfl hc i pins s3 σ3 H3 X.xe I3 (stat fr3) st3 go) fun r s4 zz=>?_)
  obtain ⟨u,hr,h4⟩:=zz
  subst hr
  refine wpAny_passesOwn hp (thn h4 fun _ s5 zz=>?_)
  obtain ⟨x,H5,I5,r5,y5,st5,fr5⟩:=zz
  have I5':=I5.pinned (stat fr5) (T.obj _ _ st5)
  refine wpAny_passesOwn hp (thn (hg _ s5 σ3 H5 x u _ I5' r5 (step x H5 y5)) fun _ s6 zz=>?_)
  obtain ⟨σ6,H6,I6,q6⟩:=zz
  refine wpAny_passesOwn hp (thn (hb _ s6 σ6 H6 _ I6 q6) fun f s7 q7=>?_)
  have again:∀ {σ7:St} {H7:Hp},Inv X (pins++pinsAt fp s5.heap) σ7 H7 s7->N σ7 H7->∃ m,m < n/\∃ i σ' H',Inv X pins σ' H' s7/\tn i s7.heap/\(∀ b∈fp,H' b=none)/\W i m σ' H':=fun {σ7 H7} I7 n7=>by
   obtain ⟨m',hm,w7⟩:=hN σ7 H7 n7
   refine ⟨m',hm,i+1,σ7,H7,I7.unpinned,T.keep _ _ _ st5 fun b hb o e=>(I7.pin (b,o) (List.mem_append_right _ (List.mem_append_right _ (jC hb e)))).1,fun b hb=>?_,w7⟩
   obtain ⟨o,e,d⟩:=T.obj _ _ st5 b hb
   exact (I7.pin (b,o) (List.mem_append_right _ (List.mem_append_right _ (jC hb e)))).2.1
  cases f with
  |next=>obtain ⟨σ7,H7,I7,n7⟩:=q7; exact again I7 n7
  |cont=>obtain ⟨σ7,H7,I7,n7⟩:=q7; exact again I7 n7
  |brk=>obtain ⟨σ7,H7,I7,q7⟩:=q7; exact ⟨σ7,H7,I7.unpinned,q7⟩
  |ret v=>obtain ⟨x7,σ7,H7,I7,r7,q7⟩:=q7; exact ⟨x7,σ7,H7,I7.unpinned,r7,q7⟩
end
theorem j1 {K:PySem.W.Frag} {a:Addr} {xs:List V} {g:TG} {tb:TS} {D:Ends} {σ:St} {H:Hp} (Pv:Nat->St->Hp->Prop) (h0:Pv 0 σ H) (hl:∀ i σ H,i<=xs.length->Pv i σ H->SqL K H a xs)
  (hs:∀ i x σ H,xs[i]?=some x->Pv i σ H->g x σ H fun σ2 H2=>tb {D with nx:=Pv (i+1),ct:=Pv (i+1),bk:=D.nx} σ2 H2) (hd:∀ σ H,Pv xs.length σ H->D.nx σ H) :
  ∃ W:Nat->Nat->St->Hp->Prop,(∃ m,W 0 m σ H)/\∀ i m σ H,W i m σ H->
   ((Itl K a).stop i H/\D.nx σ H)\/((Itl K a).go i H/\∃ N:St->Hp->Prop,(∀ σ' H',N σ' H'->∃ m',m' < m/\W (i+1) m' σ' H')/\∀ x H',(Itl K a).yld i H x H'->g x σ H' fun σ2 H2=>tb {D with nx:=N,ct:=N,bk:=D.nx} σ2 H2):=by
 refine ⟨fun i m σ H=>m=xs.length - i/\i<=xs.length/\Pv i σ H,⟨xs.length,by simp,Nat.zero_le _,h0⟩,?_⟩
 rintro i m σ H ⟨rfl,hi,p⟩
 have q:=hl i σ H hi p
 by_cases hlt:i < xs.length
 ·refine .inr ⟨⟨xs,xs[i],q,by simp [hlt]⟩,Pv (i+1),fun σ' H' p'=>⟨xs.length - (i+1),by omega,rfl,hlt,p'⟩,fun x H' y=>?_⟩
  obtain ⟨e,y⟩:=y
  subst e
  exact hs i x σ _ (y xs q) p
 ·have e:i=xs.length:=by omega
  subst e
  exact .inl ⟨⟨xs,q,Nat.le_refl _⟩,hd σ H p⟩
theorem for_tup {K:PySem.W.Frag} {a:Addr} {xs:List V} {g:TG} {tb:TS} {D:Ends} {σ:St} {H:Hp} (Pv:Nat->St->Hp->Prop) (h0:Pv 0 σ H) (hl:∀ i σ H,i<=xs.length->Pv i σ H->SqT K H a xs)
  (hs:∀ i x σ H,xs[i]?=some x->Pv i σ H->g x σ H fun σ2 H2=>tb {D with nx:=Pv (i+1),ct:=Pv (i+1),bk:=D.nx} σ2 H2) (hd:∀ σ H,Pv xs.length σ H->D.nx σ H) :
  ∃ W:Nat->Nat->St->Hp->Prop,(∃ m,W 0 m σ H)/\∀ i m σ H,W i m σ H->
   ((Itt K a).stop i H/\D.nx σ H)\/((Itt K a).go i H/\∃ N:St->Hp->Prop,(∀ σ' H',N σ' H'->∃ m',m' < m/\W (i+1) m' σ' H')/\∀ x H',(Itt K a).yld i H x H'->g x σ H' fun σ2 H2=>tb {D with nx:=N,ct:=N,bk:=D.nx} σ2 H2):=by
 refine ⟨fun i m σ H=>m=xs.length - i/\i<=xs.length/\Pv i σ H,⟨xs.length,by simp,Nat.zero_le _,h0⟩,?_⟩
 rintro i m σ H ⟨rfl,hi,p⟩
 have q:=hl i σ H hi p
 by_cases hlt:i < xs.length
 ·refine .inr ⟨⟨xs,xs[i],q,by simp [hlt]⟩,Pv (i+1),fun σ' H' p'=>⟨xs.length - (i+1),by omega,rfl,hlt,p'⟩,fun x H' y=>?_⟩
  obtain ⟨e,y⟩:=y
  subst e
  exact hs i x σ _ (y xs q) p
 ·have e:i=xs.length:=by omega
  subst e
  exact .inl ⟨⟨xs,q,Nat.le_refl _⟩,hd σ H p⟩
theorem yI {lo:Int} {n:Nat} {g:TG} {tb:TS} {D:Ends} {σ:St} {H:Hp} (Pv:Nat->St->Hp->Prop) (h0:Pv 0 σ H)
  (hs:∀ i σ H,i < n->Pv i σ H->g (.int (lo+i)) σ H fun σ2 H2=>tb {D with nx:=Pv (i+1),ct:=Pv (i+1),bk:=D.nx} σ2 H2) (hd:∀ σ H,Pv n σ H->D.nx σ H) :
  ∃ W:Nat->Nat->St->Hp->Prop,(∃ m,W 0 m σ H)/\∀ i m σ H,W i m σ H->
   ((Itr lo n).stop i H/\D.nx σ H)\/((Itr lo n).go i H/\∃ N:St->Hp->Prop,(∀ σ' H',N σ' H'->∃ m',m' < m/\W (i+1) m' σ' H')/\∀ x H',(Itr lo n).yld i H x H'->g x σ H' fun σ2 H2=>tb {D with nx:=N,ct:=N,bk:=D.nx} σ2 H2):=by
 refine ⟨fun i m σ H=>m=n - i/\i<=n/\Pv i σ H,⟨n,by simp,Nat.zero_le _,h0⟩,?_⟩
 rintro i m σ H ⟨rfl,hi,p⟩
 by_cases hlt:i < n
 ·refine .inr ⟨hlt,Pv (i+1),fun σ' H' p'=>⟨n - (i+1),by omega,rfl,hlt,p'⟩,fun x H' y=>?_⟩
  obtain ⟨e,y⟩:=y
  subst e y
  exact hs i σ _ hlt p
 ·have e:i=n:=by omega
  subst e
  exact .inl ⟨Nat.le_refl _,hd σ H p⟩
end L2
namespace L2
open PySem PySem.Spec PyProof.Rows
abbrev R2:=V->V->Hp->VK->Prop
def OpR (X:Cx) (f:Value->Value->Sem Value) (r:R2):Prop:=
 ∀ (pins:List (Addr × Obj)) (s:Shared) (σ:St) (H:Hp) (x y:V) (v u:Value) (Q:VK),Inv X pins σ H s->RelV x v->RelV y u->r x y H Q->
  wpAny (model X.prog X.w) X.A (f v u) (EP X pins σ Q) X.xe s
def UnR (X:Cx) (f:Value->Sem Value) (r:V->Hp->VK->Prop):Prop:=
 ∀ (pins:List (Addr × Obj)) (s:Shared) (σ:St) (H:Hp) (x:V) (v:Value) (Q:VK),Inv X pins σ H s->RelV x v->r x H Q->
  wpAny (model X.prog X.w) X.A (f v) (EP X pins σ Q) X.xe s
def jJ (X:Cx) (f:Value) (r:List V->Hp->VK->Prop):Prop:=
 ∀ (pins:List (Addr × Obj)) (s:Shared) (σ:St) (H:Hp) (xs:List V) (us:List Value) (Q:VK),Inv X pins σ H s->Vals xs us->r xs H Q->
  wpAny (model X.prog X.w) X.A (call f us) (EP X pins σ Q) X.xe s
def tOp (r:R2) (ta tb:TE):TE:=fun σ H Q=>ta σ H fun x H1=>tb σ H1 fun y H2=>r x y H2 Q
def tUn (r:V->Hp->VK->Prop) (ta:TE):TE:=fun σ H Q=>ta σ H fun x H1=>r x H1 Q
def rI (C:Int->Int->Prop) (g:Int->Int->V):R2:=fun x y H Q=>∃ i j,x=.int i/\y=.int j/\C i j/\Q (g i j) H
def rI0 (g:Int->Int->V):R2:=fun x y H Q=>∃ i j,x=.int i/\y=.int j/\Q (g i j) H
def rU (g:Int->V):V->Hp->VK->Prop:=fun x H Q=>∃ i,x=.int i/\Q (g i) H
section
variable {X:Cx} {a b c:Expr} {ta tb tc:TE} {pos:Pos}
theorem binT (ha:PE X a ta) (hb:PE X b tb) {pins:List (Addr × Obj)} {s:Shared} {σ:St} {H:Hp} {R:V->V->Hp->Prop} (I:Inv X pins σ H s)
  (h:ta σ H fun x H1=>tb σ H1 fun y H2=>R x y H2) {Q:Value->Shared->Prop} {f:Value->Value->Sem Value}
  (hf:∀ v u s2 x y H2,Inv X pins σ H2 s2->RelV x v->RelV y u->R x y H2->wpAny (model X.prog X.w) X.A (f v u) Q X.xe s2) :
  wpAny (model X.prog X.w) X.A (eval a X.env) (fun v s₁=>wpAny (model X.prog X.w) X.A (eval b X.env) (fun u s₂=>wpAny (model X.prog X.w) X.A (f v u) Q X.xe s₂) X.xe s₁) X.xe s:=by
 refine thn (ha pins s σ H _ I h) fun v s1 zz=>?_
 obtain ⟨x,H1,I1,r1,q1⟩:=zz
 refine thn (hb pins s1 σ H1 _ I1 q1) fun u s2 zz=>?_
 obtain ⟨y,H2,I2,r2,q2⟩:=zz
 exact hf v u s2 x y H2 I2 r1 r2 q2
theorem zO {op:Operator} {r:R2} (ho:OpR X (binaryOp op) r) (ha:PE X a ta) (hb:PE X b tb):PE X (.BinOp a op b pos) (tOp r ta tb):=by
 intro pins s σ H Q I h
 exact wpAny_BinOp (binT ha hb I h fun v u s2 x y H2 I2 rx ry q=>ho pins s2 σ H2 x y v u Q I2 rx ry q)
theorem YS {op:UnaryOp} {r:V->Hp->VK->Prop} (ho:UnR X (unaryOp op) r) (ha:PE X a ta):PE X (.UnaryOp op a pos) (tUn r ta):=by
 intro pins s σ H Q I h
 exact UnaryOp_ (thn (ha pins s σ H _ I h) fun v s1 ⟨x,H1,I1,r1,q1⟩=>ho pins s1 σ H1 x v Q I1 r1 q1)
theorem opI {f:Value->Value->Sem Value} {C:Int->Int->Prop} {g:Int->Int->Int}
  (rule:∀ (i j:Int) (t u:Tok) (s:Shared) (Q:Value->Shared->Prop) (E:Value->Shared->Prop),C i j->Q (.int (g i j) s.toks) {s with toks:=s.toks+1}->wpAny (model X.prog X.w) X.A (f (.int i t) (.int j u)) Q E s) :
  OpR X f (rI C fun i j=>.int (g i j)):=by
 intro pins s σ H x y v u Q I rx ry h
 obtain ⟨i,j,rfl,rfl,hc,q⟩:=h
 obtain ⟨t,rfl⟩:=rx
 obtain ⟨t',rfl⟩:=ry
 exact rule i j t t' s _ _ hc ⟨.int (g i j),H,I.tok _,⟨_,rfl⟩,q⟩
theorem opI0 {f:Value->Value->Sem Value} {g:Int->Int->Int}
  (rule:∀ (i j:Int) (t u:Tok) (s:Shared) (Q:Value->Shared->Prop) (E:Value->Shared->Prop),Q (.int (g i j) s.toks) {s with toks:=s.toks+1}->wpAny (model X.prog X.w) X.A (f (.int i t) (.int j u)) Q E s) :
  OpR X f (rI0 fun i j=>.int (g i j)):=by
 intro pins s σ H x y v u Q I rx ry h
 obtain ⟨i,j,rfl,rfl,q⟩:=h
 obtain ⟨t,rfl⟩:=rx
 obtain ⟨t',rfl⟩:=ry
 exact rule i j t t' s _ _ ⟨.int (g i j),H,I.tok _,⟨_,rfl⟩,q⟩
theorem opB0 {f:Value->Value->Sem Value} {g:Int->Int->Bool}
  (rule:∀ (i j:Int) (t u:Tok) (s:Shared) (Q:Value->Shared->Prop) (E:Value->Shared->Prop),Q (.bool (g i j)) s->wpAny (model X.prog X.w) X.A (f (.int i t) (.int j u)) Q E s) :
  OpR X f (rI0 fun i j=>.bl (g i j)):=by
 intro pins s σ H x y v u Q I rx ry h
 obtain ⟨i,j,rfl,rfl,q⟩:=h
 obtain ⟨t,rfl⟩:=rx
 obtain ⟨t',rfl⟩:=ry
 exact rule i j t t' s _ _ ⟨.bl (g i j),H,I,rfl,q⟩
theorem zj:OpR X (binaryOp .Add) (rI0 fun i j=>.int (i+j)):=opI0 fun _ _ _ _ _ _ _ q=>add_int q
theorem Zu:OpR X (binaryOp .Sub) (rI0 fun i j=>.int (i - j)):=opI0 fun _ _ _ _ _ _ _ q=>sub_int q
theorem op_mod:OpR X (binaryOp .Mod) (rI (fun _ j=>0 < j) fun i j=>.int (i % j)):=opI fun i j _ _ _ _ _ hc q=>by
 have h1:(0:Int) < j:=hc
 exact mod_int' (by omega) (by rw [Int.fmod_eq_emod_of_nonneg i (by omega)]; exact q)
theorem unI {f:Value->Sem Value} {g:Int->Int}
  (rule:∀ (i:Int) (t:Tok) (s:Shared) (Q:Value->Shared->Prop) (E:Value->Shared->Prop),Q (.int (g i) s.toks) {s with toks:=s.toks+1}->wpAny (model X.prog X.w) X.A (f (.int i t)) Q E s) :
  UnR X f (rU fun i=>.int (g i)):=by
 intro pins s σ H x v Q I rx h
 obtain ⟨i,rfl,q⟩:=h
 obtain ⟨t,rfl⟩:=rx
 exact rule i t s _ _ ⟨.int (g i),H,I.tok _,⟨_,rfl⟩,q⟩
theorem ZO:UnR X (unaryOp .USub) (rU fun i=>.int (-i)):=unI fun _ _ _ _ _ q=>neg_int q
end
def scal:V->V->Bool
 |.non,.non=>true|.non,.int _=>true|.int _,.non=>true|.non,.bl _=>true|.bl _,.non=>true|.non,.str _=>true|.str _,.non=>true
 |.int _,.int _=>true|.bl _,.bl _=>true|.str _,.str _=>true|.byt _,.byt _=>true
 |.int _,.str _=>true|.str _,.int _=>true|.bl _,.str _=>true|.str _,.bl _=>true
 |_,_=>false
def rEq:R2:=fun x y H Q=>scal x y=true/\Q (.bl (decide (x=y))) H
def rNe:R2:=fun x y H Q=>scal x y=true/\Q (.bl (!decide (x=y))) H
theorem dec_int {i j:Int}:decide (V.int i=V.int j)=(i == j):=by
 rw [Bool.eq_iff_iff]
 simp
theorem dec_bl {i j:Bool}:decide (V.bl i=V.bl j)=(i == j):=by
 rw [Bool.eq_iff_iff]
 simp
theorem dec_str {i j:Str}:decide (V.str i=V.str j)=(i == j):=by
 rw [Bool.eq_iff_iff]
 simp
theorem dec_byt {i j:Array UInt8}:decide (V.byt i=V.byt j)=(i.toList == j.toList):=by
 rw [Bool.eq_iff_iff]
 cases i
 cases j
 simp
section
variable {X:Cx} {a b c:Expr} {ta tb tc:TE} {pos:Pos}
theorem zf {pins:List (Addr × Obj)} {σ:St} {H:Hp} {s:Shared} {Q:VK} {k k':Bool} (I:Inv X pins σ H s) (q:Q (.bl k) H) (e:k=k'):EP X pins σ Q (.bool k') s:=by
 subst e
 exact ⟨.bl k,H,I,rfl,q⟩
theorem ZB:OpR X (compareOp .Eq) rEq:=by
 intro pins s σ H x y v u Q I rx ry h
 obtain ⟨hs,q⟩:=h
 cases x with
 |non=>
  cases rx
  cases y with
  |non=>cases ry; exact PySem.EqNone.eq_none_none (zf I q (by simp))
  |bl j=>cases ry; exact PySem.EqNone.eq_none_bool (zf I q (by simp))
  |int j=>obtain ⟨t',rfl⟩:=ry; exact PySem.EqNone.eq_none_int (zf I q (by simp))
  |str j=>obtain ⟨t',rfl⟩:=ry; exact PySem.EqNone.eq_none_str (zf I q (by simp))
  |_=>exact absurd (show false=true from hs) Bool.false_ne_true
 |bl i=>
  cases rx
  cases y with
  |non=>cases ry; exact PySem.EqNone.eq_bool_none (zf I q (by simp))
  |bl j=>cases ry; exact eq_bool (zf I q dec_bl)
  |str j=>obtain ⟨t',rfl⟩:=ry; exact PySem.EqMixed.eq_bool_str (zf I q (by simp))
  |_=>exact absurd (show false=true from hs) Bool.false_ne_true
 |int i=>
  obtain ⟨t,rfl⟩:=rx
  cases y with
  |non=>cases ry; exact PySem.EqNone.eq_int_none (zf I q (by simp))
  |int j=>obtain ⟨t',rfl⟩:=ry; exact eq_int (zf I q dec_int)
  |str j=>obtain ⟨t',rfl⟩:=ry; exact PySem.EqMixed.eq_int_str (zf I q (by simp))
  |_=>exact absurd (show false=true from hs) Bool.false_ne_true
 |str i=>
  obtain ⟨t,rfl⟩:=rx
  cases y with
  |non=>cases ry; exact PySem.EqNone.eq_str_none (zf I q (by simp))
  |bl j=>cases ry; exact PySem.EqMixed.eq_str_bool (zf I q (by simp))
  |int j=>obtain ⟨t',rfl⟩:=ry; exact PySem.EqMixed.eq_str_int (zf I q (by simp))
  |str j=>obtain ⟨t',rfl⟩:=ry; exact eq_str (zf I q dec_str)
  |_=>exact absurd (show false=true from hs) Bool.false_ne_true
 |byt i=>
  obtain ⟨t,rfl⟩:=rx
  cases y with
  |byt j=>obtain ⟨t',rfl⟩:=ry; exact PySem.W.eq_bytes (zf I q dec_byt)
  |_=>exact absurd (show false=true from hs) Bool.false_ne_true
 |_=>cases y<;>exact absurd (show false=true from hs) Bool.false_ne_true
theorem op_ne:OpR X (compareOp .NotEq) rNe:=by
 intro pins s σ H x y v u Q I rx ry h
 obtain ⟨hs,q⟩:=h
 cases x with
 |non=>
  cases rx
  cases y with
  |non=>cases ry; exact PySem.EqNone.ne_none_none (zf I q (by simp))
  |bl j=>cases ry; exact PySem.EqNone.ne_none_bool (zf I q (by simp))
  |int j=>obtain ⟨t',rfl⟩:=ry; exact PySem.EqNone.ne_none_int (zf I q (by simp))
  |str j=>obtain ⟨t',rfl⟩:=ry; exact PySem.EqNone.ne_none_str (zf I q (by simp))
  |_=>exact absurd (show false=true from hs) Bool.false_ne_true
 |bl i=>
  cases rx
  cases y with
  |non=>cases ry; exact PySem.EqNone.ne_bool_none (zf I q (by simp))
  |bl j=>cases ry; exact ne_bool (zf I q (congrArg not dec_bl))
  |str j=>obtain ⟨t',rfl⟩:=ry; exact PySem.EqMixed.ne_bool_str (zf I q (by simp))
  |_=>exact absurd (show false=true from hs) Bool.false_ne_true
 |int i=>
  obtain ⟨t,rfl⟩:=rx
  cases y with
  |non=>cases ry; exact PySem.EqNone.ne_int_none (zf I q (by simp))
  |int j=>obtain ⟨t',rfl⟩:=ry; exact ne_int (zf I q (congrArg not dec_int))
  |str j=>obtain ⟨t',rfl⟩:=ry; exact PySem.EqMixed.ne_int_str (zf I q (by simp))
  |_=>exact absurd (show false=true from hs) Bool.false_ne_true
 |str i=>
  obtain ⟨t,rfl⟩:=rx
  cases y with
  |non=>cases ry; exact PySem.EqNone.ne_str_none (zf I q (by simp))
  |bl j=>cases ry; exact PySem.EqMixed.ne_str_bool (zf I q (by simp))
  |int j=>obtain ⟨t',rfl⟩:=ry; exact PySem.EqMixed.ne_str_int (zf I q (by simp))
  |str j=>obtain ⟨t',rfl⟩:=ry; exact ne_str (zf I q (congrArg not dec_str))
  |_=>exact absurd (show false=true from hs) Bool.false_ne_true
 |byt i=>
  obtain ⟨t,rfl⟩:=rx
  cases y with
  |byt j=>obtain ⟨t',rfl⟩:=ry; exact PySem.W.ne_bytes (zf I q (congrArg not dec_byt))
  |_=>exact absurd (show false=true from hs) Bool.false_ne_true
 |_=>cases y<;>exact absurd (show false=true from hs) Bool.false_ne_true
theorem Yh:OpR X (compareOp .Lt) (rI0 fun i j=>.bl (decide (i < j))):=opB0 fun _ _ _ _ _ _ _ q=>lt_int q
theorem Jw:OpR X (compareOp .LtE) (rI0 fun i j=>.bl (decide (i<=j))):=opB0 fun _ _ _ _ _ _ _ q=>le_int q
theorem op_gt:OpR X (compareOp .Gt) (rI0 fun i j=>.bl (decide (j < i))):=opB0 fun _ _ _ _ _ _ _ q=>gt_int q
theorem YU:OpR X (compareOp .GtE) (rI0 fun i j=>.bl (decide (j<=i))):=opB0 fun _ _ _ _ _ _ _ q=>ge_int q
theorem Jr:OpR X (compareOp .Is) (fun x y H Q=>y=.non/\Q (.bl (decide (x=.non))) H):=by
 intro pins s σ H x y v u Q I rx ry h
 obtain ⟨rfl,q⟩:=h
 cases ry
 refine is_none_gen (zf I q ?_)
 cases x<;>first
  | (cases rx; rfl)
  | (obtain ⟨t,rfl⟩:=rx; rfl)
theorem op_notN:OpR X (compareOp .IsNot) (fun x y H Q=>y=.non/\Q (.bl (!decide (x=.non))) H):=by
 intro pins s σ H x y v u Q I rx ry h
 obtain ⟨rfl,q⟩:=h
 cases ry
 refine isnot_none_gen (zf I q ?_)
 cases x<;>first
  | (cases rx; rfl)
  | (obtain ⟨t,rfl⟩:=rx; rfl)
theorem zS (b:Expr) {op:CmpOp} (h:op≠.In:=by decide) (h2:op≠.NotIn:=by decide):behindInMarks op b=false:=by
 have e1:(op == CmpOp.In)=false:=by cases op<;>first|rfl|exact absurd rfl h
 have e2:(op == CmpOp.NotIn)=false:=by cases op<;>first|rfl|exact absurd rfl h2
 cases b<;>simp [behindInMarks,e1,e2]
theorem yg {op:CmpOp} {r:R2} (ho:OpR X (compareOp op) r) (ha:PE X a ta) (hb:PE X b tb) (hm:behindInMarks op b=false):PE X (.Compare a [op] [b] pos) (tOp r ta tb):=by
 intro pins s σ H Q I h
 exact wpAny_Compare1 (binT ha hb I h fun v u s2 x y H2 I2 rx ry q=>ho pins s2 σ H2 x y v u Q I2 rx ry q) hm
def tTest (t:TE):TT:=fun σ H Q=>t σ H fun x H'=>∃ k,x=.bl k/\Q k H'
theorem zQ {op:CmpOp} {r:R2} (ho:OpR X (compareOp op) r) (ha:PE X a ta) (hb:PE X b tb) (hm:behindInMarks op b=false):PT X (.Compare a [op] [b] pos) (tTest (tOp r ta tb)):=by
 intro pins s σ H Q I h
 refine wpAny_isTrue_Compare1 (thn (ha pins s σ H _ I h) fun v s1 ⟨x,H1,I1,r1,q1⟩=>thn (hb pins s1 σ H1 _ I1 q1) fun u s2 ⟨y,H2,I2,r2,q2⟩=>
  thn (ho pins s2 σ H2 x y v u _ I2 r1 r2 q2) fun c s3 ⟨z,H3,I3,r3,k,e,q3⟩=>?_) hm
 subst e
 cases r3
 exact wpAny_truthy_bool ⟨H3,I3,q3⟩
def tChain (r r':R2) (ta tb tc:TE):TE:=fun σ H Q=>ta σ H fun x H1=>tb σ H1 fun y H2=>r x y H2 fun z H3=>∃ k,z=.bl k/\
 (if k=true then tc σ H3 fun w' H4=>r' y w' H4 Q else Q (.bl false) H3)
theorem pe_chain {op op':CmpOp} {r r':R2} (ho:OpR X (compareOp op) r) (ho':OpR X (compareOp op') r') (ha:PE X a ta) (hb:PE X b tb) (hc:PE X c tc)
  (hm:lastMarks [op,op'] [b,c]=false:=by with_unfolding_all rfl):PE X (.Compare a [op,op'] [b,c] pos) (tChain r r' ta tb tc):=by
 intro pins s σ H Q I h
 refine Compare_chain (thn (ha pins s σ H _ I h) fun v s1 ⟨x,H1,I1,r1,q1⟩=>chain_link (thn (hb pins s1 σ H1 _ I1 q1) fun u s2 ⟨y,H2,I2,r2,q2⟩=>
  thn (ho pins s2 σ H2 x y v u _ I2 r1 r2 q2) fun d s3 ⟨z,H3,I3,r3,k,e,q3⟩=>?_)) hm
 subst e
 cases r3
 refine wpAny_truthy_bool ?_
 cases k with
 |false=>exact ite_ff ⟨.bl false,H3,I3,rfl,q3⟩
 |true=>exact ite_tt (chain_last (thn (hc pins s3 σ H3 _ I3 q3) fun w' s4 ⟨z',H4,I4,r4,q4⟩=>ho' pins s4 σ H4 y z' u w' Q I4 r2 r4 q4))
theorem pt_chain {op op':CmpOp} {r r':R2} (ho:OpR X (compareOp op) r) (ho':OpR X (compareOp op') r') (ha:PE X a ta) (hb:PE X b tb) (hc:PE X c tc)
  (hm:lastMarks [op,op'] [b,c]=false:=by with_unfolding_all rfl):PT X (.Compare a [op,op'] [b,c] pos) (tTest (tChain r r' ta tb tc)):=by
 intro pins s σ H Q I h
 refine isTrue_chain (thn (ha pins s σ H _ I h) fun v s1 ⟨x,H1,I1,r1,q1⟩=>test_link (thn (hb pins s1 σ H1 _ I1 q1) fun u s2 ⟨y,H2,I2,r2,q2⟩=>
  thn (ho pins s2 σ H2 x y v u _ I2 r1 r2 q2) fun d s3 ⟨z,H3,I3,r3,k,e,q3⟩=>?_)) hm
 subst e
 cases r3
 refine wpAny_truthy_bool ?_
 cases k with
 |false=>
  obtain ⟨k',e',q'⟩:=q3
  cases e'
  exact ite_ff ⟨H3,I3,q'⟩
 |true=>
  refine ite_tt (test_last (thn (hc pins s3 σ H3 _ I3 q3) fun w' s4 ⟨z',H4,I4,r4,q4⟩=>thn (ho' pins s4 σ H4 y z' u w' _ I4 r2 r4 q4) fun d' s5 zz=>?_))
  obtain ⟨z2,H5,I5,r5,k2,e2,q5⟩:=zz
  subst e2
  cases r5
  exact wpAny_truthy_bool ⟨H5,I5,q5⟩
theorem line63:(sizeLine:Nat) < 2 ^ 63:=by rw [sizeLine_eq]; decide
theorem Zi {x:V} {us:List Value} (r:Vals [x] us):∃ u,us=[u]/\RelV x u:=by
 cases r with
 |cons r1 r2=>cases r2; exact ⟨_,rfl,r1⟩
theorem vals2 {x y:V} {us:List Value} (r:Vals [x,y] us):∃ u w',us=[u,w']/\RelV x u/\RelV y w':=by
 cases r with
 |cons r1 r2=>
  cases r2 with
  |cons r3 r4=>cases r4; exact ⟨_,_,rfl,r1,r3⟩
theorem Zq:jJ X (.builtin "abs") (fun xs H Q=>∃ i,xs=[.int i]/\Q (.int (if i < 0 then -i else i)) H):=by
 intro pins s σ H xs us Q I r h
 obtain ⟨i,rfl,q⟩:=h
 obtain ⟨u,rfl,t,rfl⟩:=Zi r
 exact call_abs_int fun u tk=>⟨.int (if i < 0 then -i else i),H,I.tok _,⟨_,rfl⟩,q⟩
theorem call_max2 (hc:X.calm=true):jJ X (.builtin "max") (fun xs H Q=>∃ i j,xs=[.int i,.int j]/\Q (.int (if j > i then j else i)) H):=by
 intro pins s σ H xs us Q I r h
 obtain ⟨i,j,rfl,q⟩:=h
 obtain ⟨u,w',rfl,⟨t,rfl⟩,⟨t',rfl⟩⟩:=vals2 r
 refine max_two_ints (I.ok.hd hc) fun h' tk k=>⟨_,H,I.kept k,?_,q⟩
 by_cases hj:j > i
 ·rw [if_pos hj,if_pos hj]; exact ⟨_,rfl⟩
 ·rw [if_neg hj,if_neg hj]; exact ⟨_,rfl⟩
theorem call_min2 (hc:X.calm=true):jJ X (.builtin "min") (fun xs H Q=>∃ i j,xs=[.int i,.int j]/\Q (.int (if j < i then j else i)) H):=by
 intro pins s σ H xs us Q I r h
 obtain ⟨i,j,rfl,q⟩:=h
 obtain ⟨u,w',rfl,⟨t,rfl⟩,⟨t',rfl⟩⟩:=vals2 r
 refine min_two_ints (I.ok.hd hc) fun h' tk k=>⟨_,H,I.kept k,?_,q⟩
 by_cases hj:j < i
 ·rw [if_pos hj,if_pos hj]; exact ⟨_,rfl⟩
 ·rw [if_neg hj,if_neg hj]; exact ⟨_,rfl⟩
theorem call_int1:jJ X (.type "int") (fun xs H Q=>(∃ i,xs=[.int i]/\Q (.int i) H)\/∃ k,xs=[.bl k]/\Q (.int (if k then 1 else 0)) H):=by
 intro pins s σ H xs us Q I r h
 rcases h with ⟨i,rfl,q⟩|⟨k,rfl,q⟩
 ·obtain ⟨u,rfl,t,rfl⟩:=Zi r
  exact call_int_int ⟨.int i,H,I,⟨_,rfl⟩,q⟩
 ·obtain ⟨u,rfl,r1⟩:=Zi r
  cases r1
  exact call_int_bool ⟨.int (if k then 1 else 0),H,I.tok _,⟨_,rfl⟩,q⟩
def LenV (K:PySem.W.Frag) (x:V) (H:Hp) (n:Nat):Prop:=
 match x with
 |.str y=>y.length<=sizeLine/\n=y.length
 |.byt y=>y.size<=sizeLine/\n=y.size
 |.ref p=>(∃ xs,SqL K H p xs/\n=xs.length)\/∃ xs,SqT K H p xs/\n=xs.length
 |_=>False
theorem yG:jJ X (.builtin "len") (fun xs H Q=>∃ x n,xs=[x]/\LenV X.K x H n/\Q (.int n) H):=by
 intro pins s σ H xs us Q I r h
 obtain ⟨x,n,rfl,e,q⟩:=h
 obtain ⟨u,rfl,rx⟩:=Zi r
 have hl:=line63
 have hs:sizeLine=16777216:=sizeLine_eq
 cases x with
 |str y=>
  obtain ⟨t,rfl⟩:=rx
  obtain ⟨hy,e'⟩:y.length<=sizeLine/\n=y.length:=e
  subst e'
  exact len_str (by omega) ⟨.int _,H,I.tok _,⟨_,rfl⟩,q⟩
 |byt y=>
  obtain ⟨t,rfl⟩:=rx
  obtain ⟨hy,e'⟩:y.size<=sizeLine/\n=y.size:=e
  subst e'
  exact PySem.W.len_bytes (by omega) ⟨.int _,H,I.tok _,⟨_,rfl⟩,q⟩
 |ref p=>
  cases rx
  have e':(∃ xs,SqL X.K H p xs/\n=xs.length)\/∃ xs,SqT X.K H p xs/\n=xs.length:=e
  rcases e' with ⟨xs,hx,e'⟩|⟨xs,hx,e'⟩
  ·subst e'
   obtain ⟨its,r',pl,hz⟩:=I.list hx
   have hlen:=r'.length
   exact Calls.call_len_list pl.isList (by simp only [List.size_toArray]; omega) ⟨.int xs.length,H,I.tok _,⟨_,by simp only [List.size_toArray]; rw [hlen]⟩,q⟩
  ·subst e'
   obtain ⟨its,r',pl,hz⟩:=I.tuple hx
   have hlen:=r'.length
   exact len_tuple pl (by simp only [List.size_toArray]; omega) ⟨.int xs.length,H,I.tok _,⟨_,by simp only [List.size_toArray]; rw [hlen]⟩,q⟩
 |_=>exact (show False from e).elim
end
end L2
namespace L2
open PySem PySem.Spec PyProof.Rows
structure ObjM (h:Heap) (x dx C:Addr) (mA:Str->Option Value):Prop where
 obj:h.get? x=some (instObj C dx)
 ns:h.Ns1 dx mA
 ne:dx≠x
theorem lookIn_ns {h:Heap} {dx:Addr} {mA:Str->Option Value} (n:h.Ns1 dx mA):∃ od,h.get? dx=some od/\∀ name,lookIn name od=some (mA name):=by
 obtain ⟨o,es,ep,ho,hd,hk,_,hm⟩:=n
 refine ⟨o,ho,fun name=>?_⟩
 have e:=hm name
 unfold nsFind findBy at e
 rw [<- Array.find?_toList] at e
 unfold lookIn
 rw [hd]
 dsimp only
 split
 ·rename_i y q
  rw [q] at e
  exact congrArg some e
 ·rename_i q
  rw [q] at e
  have a:es.toList.any (·.refKey)=false:=by
   rw [List.any_eq_false]
   intro y hy
   obtain ⟨z,t,hkey⟩:=hk y (Array.mem_toList_iff.mp hy)
   simp [DictEntry.refKey,hkey]
  have a':¬ es.toList.any (·.refKey)=true:=by rw [a]; exact Bool.false_ne_true
  rw [if_neg a']
  exact congrArg some e
theorem ObjM.look {h:Heap} {x dx C:Addr} {mA:Str->Option Value} (I:ObjM h x dx C mA):∃ od,PySem.W.InstAt h x (instObj C dx) C (some od)/\∀ name,lookIn name od=some (mA name):=
 let ⟨od,ho,hl⟩:=lookIn_ns I.ns
 ⟨od,⟨I.obj,rfl,rfl,ho⟩,hl⟩
section
variable {prog:Program} {w:World} {A:Around} {E:Value->Shared->Prop} {s:Shared} {K:PySem.W.Frag} {x dx C f:Addr} {mA:Str->Option Value} {name:Str} {v:Value}
theorem get_map {expr:Bool} {Q:Value->Shared->Prop} (X:K.In s.heap) (I:ObjM s.heap x dx C mA) (hg:plainGet K C name=true) (hh:hasDictIn K C=true)
  (ha:findIn K (.ref C) name=some none) (hv:mA name=some v) (hv':PySem.W.handedIn v=true) (h:Q v {s with toks:=s.toks+1}) :
  wpAny (model prog w) A (getAttr (.ref x) name expr) Q E s:=by
 obtain ⟨od,J,hl⟩:=I.look
 exact PySem.W.get_value X J (plainGet_of hg).1 (PySem.W.findObj_own hh ha rfl (by rw [hl,hv])) hv' h
theorem get_meth {pl:Sem Bool} {Q:Value × List Value->Shared->Prop} (X:K.In s.heap) (I:ObjM s.heap x dx C mA) (hg:plainGet K C name=true)
  (hf:findIn K (.ref C) name=some (some (.ref f))) (ht:isFn K (.ref f)=true) (hv:mA name=none) (h:Q (.ref f,[.ref x]) s) :
  wpAny (model prog w) A (getMethod (.ref x) name pl) Q E s:=by
 obtain ⟨od,J,hl⟩:=I.look
 exact PySem.W.method_fn X J (plainGet_of hg).1 (plainGet_of hg).2 hf (beq_iff_eq.mp ht) (by show (lookIn name od).map (·.isSome)=some false; rw [hl,hv]; rfl) h
theorem set_map {ns:List Str} {Q:Unit->Shared->Prop} (X:K.In s.heap) (I:ObjM s.heap x dx C mA)
  (hs:findIn K (.ref C) "__setattr__"=some (some (.builtin "object.__setattr__"))) (hp:plainOver K C=true) (ht:takerIn K C name=some none) (hh:hasDictIn K C=true)
  (hw:PySem.Within mA ns) (hsz:ns.length<=sizeLine)
  (h:∀ h',ObjM h' x dx C (fun y=>if y=name then some v else mA y)->Heap.SameBut dx s.heap h'->Q () {s with heap:=h',toks:=s.toks+2}) :
  wpAny (model prog w) A (setAttr (.ref x) name v) Q E s:=by
 obtain ⟨od,J,hl⟩:=I.look
 refine PySem.W.set_plain X J hs (PySem.W.osa_open (s:={s with toks:=s.toks+1}) (r:=none) X J hp ht fun b=>?_)
 obtain ⟨cd,hc,hd'⟩:=PySem.W.any_some hh
 have hx:s.heap.get? x=some ⟨.ref C,some dx,.plain,#[]⟩:=I.obj
 refine wpAny_bind (wpAny_pure (wpAny_bind (wpAny_bind (wpAny_loadPart hx (wpAny_bind (PySem.W.Looks.here (s:={s with toks:=s.toks+1}) (PySem.W.looks_clsIn X hc) ?_))))))
 rw [hd']
 refine wpAny_pure (a:=some dx) (wpAny_bind (wpAny_pure (wpAny_bind ?_)))
 refine wpAny_nsSet1 (s:={s with toks:=s.toks+1}) I.ns fun h' hn2 hs2=>?_
 obtain ⟨oD,esD,epD,hoD,hdD,hcD⟩:=hn2.count (PySem.Within.cons name v hw)
 refine wpAny_bind (wpAny_lookBehind hoD (by rw [hdD]; exact pastItsLine_dict (Nat.le_trans hcD (by rw [List.length_cons]; omega))) ?_)
 exact wpAny_pure (h _ ⟨(hs2.2 _ (Ne.symm I.ne)).trans I.obj,hn2,I.ne⟩ hs2)
theorem make_map {R:Result->Shared->Prop} {vs:List Value} {kw:List (Str × Value)} (X:K.In s.heap) (hm:makesIn K C=true)
  (hi:findIn K (.ref C) "__init__"=some (some (.ref f))) (hf:PySem.W.typeIn K (.ref f)=some (.type "function"))
  (h:codeAny (model prog w) (A.under (.builtin "type.__call__" ⟨.ref C::vs,kw⟩)) (.call (.ref f) ⟨.ref (s.heap.objs.size+1)::vs,kw⟩) (PySem.W.InitBack (s.heap.objs.size+1) R)
   {s with heap:=(s.heap.push emptyDict).push (instObj C s.heap.objs.size)}) :
  codeAny (model prog w) A (.call (.ref C) ⟨vs,kw⟩) R s:=by
 obtain ⟨hh,g,d,t,os⟩:=s
 exact PySem.W.make_core (PySem.W.makes_of X hm) (PySem.W.looks_findIn X hi) (fun self=>PySem.W.bind_fn X self hf) (.inl rfl) h
end
def putF (f:Str) (v:V):List (Str × V)->List (Str × V)
 |[]=>[(f,v)]
 | (g,x)::r=>if g=f then (g,v)::r else (g,x)::putF f v r
theorem JH (f g:Str) (v:V):∀ fs:List (Str × V),(putF f v fs).lookup g=if g=f then some v else fs.lookup g
 |[]=>by
  show List.lookup g [(f,v)]=_
  by_cases h:g=f
  ·have hb:(g == f)=true:=beq_iff_eq.mpr h
   simp only [List.lookup,hb,if_pos h]
  ·have hb:(g == f)=false:=beq_eq_false_iff_ne.mpr h
   simp only [List.lookup,hb,if_neg h]
 | (k,x)::r=>by
  have ih:=JH f g v r
  rw [show putF f v ((k,x)::r)=(if k=f then (k,v)::r else (k,x)::putF f v r) from rfl]
  by_cases hk:k=f
  ·rw [if_pos hk]
   by_cases h:g=k
   ·have hb:(g == k)=true:=beq_iff_eq.mpr h
    simp only [List.lookup,hb,if_pos (h.trans hk)]
   ·have hb:(g == k)=false:=beq_eq_false_iff_ne.mpr h
    simp only [List.lookup,hb,if_neg (fun e:g=f=>h (e.trans hk.symm))]
  ·rw [if_neg hk]
   by_cases h:g=k
   ·have hb:(g == k)=true:=beq_iff_eq.mpr h
    simp only [List.lookup,hb,if_neg (fun e:g=f=>hk (h.symm.trans e))]
   ·have hb:(g == k)=false:=beq_eq_false_iff_ne.mpr h
    simp only [List.lookup,hb]
    exact ih
theorem Y6 (f:Str) (v:V):∀ fs:List (Str × V),f∈(putF f v fs).map (·.1)/\∀ g,g∈fs.map (·.1)->g∈(putF f v fs).map (·.1)
 |[]=>⟨by simp [putF],fun g h=>by simp at h⟩
 | (k,x)::r=>by
  obtain ⟨i1,i2⟩:=Y6 f v r
  rw [show putF f v ((k,x)::r)=(if k=f then (k,v)::r else (k,x)::putF f v r) from rfl]
  by_cases hk:k=f
  ·rw [if_pos hk]
   subst hk
   exact ⟨by simp,fun g h=>by simpa using h⟩
  ·rw [if_neg hk]
   refine ⟨?_,fun g h=>?_⟩
   ·rw [List.map_cons]
    exact List.mem_cons_of_mem _ i1
   ·rw [List.map_cons] at h ⊢
    rcases List.mem_cons.mp h with e|e
    ·exact List.mem_cons.mpr (.inl e)
    ·exact List.mem_cons_of_mem _ (i2 g e)
theorem JI (f:Str) (v:V):∀ fs:List (Str × V),(putF f v fs).length<=fs.length+1
 |[]=>by simp [putF]
 | (k,x)::r=>by
  have ih:=JI f v r
  rw [show putF f v ((k,x)::r)=(if k=f then (k,v)::r else (k,x)::putF f v r) from rfl]
  by_cases hk:k=f
  ·rw [if_pos hk,List.length_cons,List.length_cons]; omega
  ·rw [if_neg hk,List.length_cons,List.length_cons]; omega
theorem RelO.some_of {v:V} {o:Option Value} (r:RelO (some v) o):∃ u,o=some u/\RelV v u:=by
 cases o with
 |none=>exact (show False from r).elim
 |some u=>exact ⟨u,rfl,r⟩
theorem RelO.none_of {o:Option Value} (r:RelO none o):o=none:=by
 cases o with
 |none=>rfl
 |some u=>exact (show False from r).elim
theorem handed_of {v:V} {u:Value} (r:RelV v u):PySem.W.handedIn u=true:=by
 cases v with
 |non=>cases (show u=Value.none from r); rfl
 |bl b=>cases (show u=Value.bool b from r); rfl
 |int i=>obtain ⟨t,e⟩:=(show ∃ t,u=Value.int i t from r); cases e; rfl
 |str x=>obtain ⟨t,e⟩:=(show ∃ t,u=Value.str x t from r); cases e; rfl
 |byt b=>obtain ⟨t,e⟩:=(show ∃ t,u=Value.bytes b t from r); cases e; rfl
 |flt b=>obtain ⟨t,e⟩:=(show ∃ t,u=Value.float b t from r); cases e; rfl
 |ref a=>cases (show u=Value.ref a from r); rfl
 |ty n=>cases (show u=Value.type n from r); rfl
section
variable {P:Program} {w:World} {H H':Hp} {h h':Heap} {a C dx:Addr} {fs fs':List (Str × V)}
theorem Jj (hok:HOk P w H h) (e:H a=some (.ins C dx fs)):∃ mA,ObjM h a dx C mA/\(∀ f,RelO (fs.lookup f) (mA f))/\PySem.Within mA (fs.map (·.1))/\fs.length<=1000/\H dx=some (.own a):=by
 obtain ⟨d,z,ne,ob,mA,n,r,q⟩:=(show zp P w H h a (.ins C dx fs) from hok a _ e)
 exact ⟨mA,⟨ob,n,ne⟩,r,q,z,d⟩
end
structure Cls (K:PySem.W.Frag) (C:Addr):Prop where
 pg:plainGet K C Str.empty=true
 hd:hasDictIn K C=true
 po:plainOver K C=true
 sa:findIn K (.ref C) "__setattr__"=some (some (.builtin "object.__setattr__"))
theorem Cls.get {K:PySem.W.Frag} {C:Addr} (c:Cls K C) (f:Str):plainGet K C f=true:=c.pg
def yu (K:PySem.W.Frag) (C:Addr) (f:Str):Prop:=findIn K (.ref C) f=some none
theorem yu.taker {K:PySem.W.Frag} {C:Addr} {f:Str} (n:yu K C f):takerIn K C f=some none:=by
 unfold takerIn
 rw [show findIn K (.ref C) f=some none from n]
 rfl
structure Meth (K:PySem.W.Frag) (C:Addr) (m:Str) (f:Addr):Prop where
 at_:findIn K (.ref C) m=some (some (.ref f))
 fn:isFn K (.ref f)=true
 kp:keepIn K (.ref f)=true
section
variable {X:Cx} {pins:List (Addr × Obj)} {σ:St} {H:Hp} {s:Shared} {a C dx:Addr} {fs:List (Str × V)} {f:Str} {v:V} {A:Around} {E:Value->Shared->Prop}
theorem Jq {b:Bool} {Q:Value->Shared->Prop} (I:Inv X pins σ H s) (e:H a=some (.ins C dx fs)) (c:Cls X.K C) (n:yu X.K C f) (l:fs.lookup f=some v)
  (h:∀ u s',Inv X pins σ H s'->RelV v u->Q u s'):wpAny (model X.prog X.w) A (getAttr (.ref a) f b) Q E s:=by
 obtain ⟨mA,O,r,_,_,_⟩:=Jj I.hok e
 obtain ⟨u,hu,ru⟩:=RelO.some_of (v:=v) (o:=mA f) (by rw [<- l]; exact r f)
 exact get_map I.kIn O (c.get f) c.hd n hu (handed_of ru) (h u _ (I.tok _) ru)
theorem J2 {m:Str} {g:Addr} {pl:Sem Bool} {Q:Value × List Value->Shared->Prop} (I:Inv X pins σ H s) (e:H a=some (.ins C dx fs)) (c:Cls X.K C) (k:Meth X.K C m g) (l:fs.lookup m=none)
  (h:Q (.ref g,[.ref a]) s):wpAny (model X.prog X.w) A (getMethod (.ref a) m pl) Q E s:=by
 obtain ⟨mA,O,r,_,_,_⟩:=Jj I.hok e
 have hn:mA m=none:=RelO.none_of (by rw [<- l]; exact r m)
 exact get_meth I.kIn O (c.get m) k.at_ k.fn hn h
theorem J3 {y:V} {u:Value} {Q:Unit->Shared->Prop} (I:Inv X pins σ H s) (e:H a=some (.ins C dx fs)) (c:Cls X.K C) (n:yu X.K C f) (hl:fs.length < 1000) (ry:RelV y u)
  (h:∀ s',Inv X pins σ (upd H a (.ins C dx (putF f y fs))) s'->Q () s'):wpAny (model X.prog X.w) A (setAttr (.ref a) f u) Q E s:=by
 obtain ⟨mA,O,r,wi,_,ho⟩:=Jj I.hok e
 have hz:(fs.map (·.1)).length<=sizeLine:=by rw [List.length_map,sizeLine_eq]; omega
 refine set_map I.kIn O c.sa c.po n.taker c.hd wi hz fun h' O' sb=>h _ ?_
 have hd:∃ o,h'.get? dx=some o:=let ⟨o,_,_,e',_⟩:=O'.ns; ⟨o,e'⟩
 refine I.write (x:=a) (e:=dx) (by rw [e]; exact True.intro) (.inr ho) (fun b q hb z=>(sb.2 b hb).trans z) hd ?_
 refine ⟨by rw [zX O.ne]; exact ho,?_,O.ne,O'.obj,_,O'.ns,fun g=>?_,fun g hg=>?_⟩
 ·have:=JI f y fs; omega
 ·show RelO ((putF f y fs).lookup g) (if g=f then some u else mA g)
  rw [JH]
  by_cases q:g=f
  ·rw [if_pos q,if_pos q]; exact ry
  ·rw [if_neg q,if_neg q]; exact r g
 ·by_cases q:g=f
  ·rw [q]; exact (Y6 f y fs).1
  ·refine (Y6 f y fs).2 g (wi g fun z=>hg ?_)
   show (if g=f then some u else mA g)=none
   rw [if_neg q]; exact z
theorem Inv.made (I:Inv X pins σ H s):Inv X pins σ (upd (upd H s.heap.objs.size (.own (s.heap.objs.size+1))) (s.heap.objs.size+1) (.ins C s.heap.objs.size []))
  {s with heap:=(s.heap.push emptyDict).push (instObj C s.heap.objs.size)}:=by
 have e1:(s.heap.push emptyDict).get? s.heap.objs.size=some emptyDict:=Heap.get?_push_size s.heap rfl
 have e2:((s.heap.push emptyDict).push (instObj C s.heap.objs.size)).get? (s.heap.objs.size+1)=some (instObj C s.heap.objs.size):=by
  have:=Heap.get?_push_size (s.heap.push emptyDict) (o:=instObj C s.heap.objs.size) rfl
  rwa [Heap.size_push] at this
 have e3:(s.heap.push emptyDict).Ns s.heap.objs.size (fun _=>none):=⟨emptyDict,#[],_,e1,rfl,(fun e he=>absurd he (by simp)),fun _=>rfl⟩
 have I1:=I.laid (a:=s.heap.objs.size) (o:=.own (s.heap.objs.size+1)) (h':=s.heap.push emptyDict) (t':=s.toks) (fun b u q=>Heap.get?_push_of_some _ q) (Nat.le_refl _) ⟨_,e1⟩
 refine I1.laid (a:=s.heap.objs.size+1) (o:=.ins C s.heap.objs.size []) (t':=s.toks) (fun b u q=>Heap.get?_push_of_some _ q) (Nat.le_of_eq (Heap.size_push _ _)) ?_
 have ne:s.heap.objs.size≠s.heap.objs.size+1:=Nat.ne_of_lt (Nat.lt_succ_self _)
 refine ⟨by rw [zX ne,zq],Nat.zero_le _,ne,e2,fun _=>none,(Heap.Ns1.of_empty e3).at fun o q=>Heap.get?_push_of_some _ q,fun _=>True.intro,fun y hy=>absurd rfl hy⟩
theorem attr_of {prog:Program} {w:World} {env:Env} {e:Expr} {f:Str} {pos:Pos} {s:Shared} {Q:Value->Shared->Prop} (hb:attributeBase e f env (eval e env)=eval e env)
  (h:wpAny (model prog w) A (eval e env) (fun o s₁=>wpAny (model prog w) A (getAttr o f true) Q E s₁) E s):wpAny (model prog w) A (eval (.Attribute e f pos) env) Q E s:=
 Attribute_any_ h (by rw [arm_eval_Attribute,hb])
end
def InOp (X:Cx) (op:Operator) (rd:V->V->Hp->VK->Prop):Prop:=
 ∀ (pins:List (Addr × Obj)) (s:Shared) (σ:St) (H:Hp) (x y:V) (u v:Value) (Q:VK),Inv X pins σ H s->RelV x u->RelV y v->rd x y H Q->wpAny (model X.prog X.w) X.A (inplaceOp op u v) (EP X pins σ Q) X.xe s
section
variable {X:Cx} {o e value:Expr} {f:Str} {pos pos' tpos:Pos} {ta tv:TE}
def rAdd:V->V->Hp->VK->Prop:=fun x y H Q=>∃ i j,x=.int i/\y=.int j/\Q (.int (i+j)) H
theorem in_add:InOp X .Add rAdd:=by
 rintro pins s σ H x y u v Q I rx ry ⟨i,j,rfl,rfl,q⟩
 obtain ⟨t,rfl⟩:=(show ∃ t,u=Value.int i t from rx)
 obtain ⟨t',rfl⟩:=(show ∃ t',v=Value.int j t' from ry)
 exact PyProof.Rows.iadd_int ⟨.int (i+j),H,I.tok _,⟨_,rfl⟩,q⟩
end
section
variable {X:Cx} {pins:List (Addr × Obj)} {σ:St} {H:Hp} {s:Shared} {A:Around} {E:Value->Shared->Prop} {Q:Value->Shared->Prop} {c:Value} {b:Bool}
inductive TyOf (K:PySem.W.Frag) (H:Hp):V->Value->Prop where
 |non:TyOf K H .non (.type "NoneType")
 |bl (x:Bool):TyOf K H (.bl x) (.type "bool")
 |int (i:Int):TyOf K H (.int i) (.type "int")
 |str (x:Str):TyOf K H (.str x) (.type "str")
 |flt (x:UInt64):TyOf K H (.flt x) (.type "float")
 |lst {a:Addr} {xs:List V} (e:H a=some (.lst xs)):TyOf K H (.ref a) (.type "list")
 |frz {a:Addr} {o:Obj} {xs:List V} (e:H a=some (.frz o (.lst xs))):TyOf K H (.ref a) (.type "list")
 |tup {a:Addr} {xs:List V} (e:H a=some (.tup xs)):TyOf K H (.ref a) (.type "tuple")
 |dK {a:Addr} {kvs:List (Key × V)} (e:H a=some (.dK kvs)):TyOf K H (.ref a) (.type "dict")
 |dT {a:Addr} {kvs:List (List Key × V)} (e:H a=some (.dT kvs)):TyOf K H (.ref a) (.type "dict")
 |ins {a C dx:Addr} {fs:List (Str × V)} (e:H a=some (.ins C dx fs)) (cl:Cls K C) (ha:findIn K (.ref C) "__class__"=some (some (.builtin "object.__class__")))
   (hn:PySem.W.specialIn K (.builtin "object.__class__") "__get__"=some (some (.builtin "getset_descriptor.__get__"))) (htk:PySem.W.takesIn K (.builtin "object.__class__")=some true)
   (hm:PySem.W.mroIn K C (.type "object")=some true):TyOf K H (.ref a) (.ref C)
theorem isinst_ok {x:V} {u t:Value} (I:Inv X pins σ H s) (rx:RelV x u) (ty:TyOf X.K H x t) (e:kitOne X.K t c=some b) (h:∀ tk,Q (.bool b) {s with toks:=tk}) :
  wpAny (model X.prog X.w) A (call (.builtin "isinstance") [u,c]) Q E s:=by
 cases ty with
 |non=>cases (show u=Value.none from rx); exact kia_one PySem.W.kitx_none I.kIn True.intro e (fun z=>nomatch z) h
 |bl y=>cases (show u=Value.bool y from rx); exact kia_one PySem.W.kitx_bool I.kIn True.intro e (fun z=>nomatch z) h
 |int i=>obtain ⟨t,q⟩:=(show ∃ t,u=Value.int i t from rx); cases q; exact kia_one PySem.W.kitx_int I.kIn True.intro e (fun z=>nomatch z) h
 |str y=>obtain ⟨t,q⟩:=(show ∃ t,u=Value.str y t from rx); cases q; exact kia_one PySem.W.kitx_str I.kIn True.intro e (fun z=>nomatch z) h
 |flt y=>obtain ⟨t,q⟩:=(show ∃ t,u=Value.float y t from rx); cases q; exact kia_one PySem.W.kitx_float I.kIn True.intro e (fun z=>nomatch z) h
 |@lst a xs ea=>
  cases (show u=Value.ref a from rx)
  obtain ⟨_,_,n,_,h1⟩:=(show zp X.prog X.w H s.heap a (.lst xs) from I.hok a _ ea)
  exact kia_one PySem.W.kitx_list I.kIn ⟨_,h1,rfl⟩ e (fun z=>nomatch z) h
 |@frz a ob xs ea=>
  cases (show u=Value.ref a from rx)
  obtain ⟨_,_,_,n,_,h1⟩:=(show zp X.prog X.w H s.heap a (.frz ob (.lst xs)) from I.hok a _ ea)
  exact kia_one PySem.W.kitx_list I.kIn ⟨_,h1,rfl⟩ e (fun z=>nomatch z) h
 |@tup a xs ea=>
  cases (show u=Value.ref a from rx)
  obtain ⟨_,_,_,p⟩:=(show zp X.prog X.w H s.heap a (.tup xs) from I.hok a _ ea)
  obtain ⟨o,h1,h2,_⟩:=p
  exact kia_one PySem.W.kitx_tuple I.kIn ⟨o,h1,h2⟩ e (fun z=>nomatch z) h
 |@dK a kvs ea=>
  cases (show u=Value.ref a from rx)
  obtain ⟨_,_,vs,_,p⟩:=(show zp X.prog X.w H s.heap a (.dK kvs) from I.hok a _ ea)
  obtain ⟨o,es,ep,h1,h2,_⟩:=p
  exact kia_one PySem.W.kitx_dict I.kIn ⟨o,h1,h2.1⟩ e (fun z=>nomatch z) h
 |@dT a kvs ea=>
  cases (show u=Value.ref a from rx)
  obtain ⟨_,_,xs,_,o,es,ep,h1,h2,_⟩:=(show zp X.prog X.w H s.heap a (.dT kvs) from I.hok a _ ea)
  exact kia_one PySem.W.kitx_dict I.kIn ⟨o,h1,h2.1⟩ e (fun z=>nomatch z) h
 |@ins a C dx fs ea cl ha hn htk hm=>
  cases (show u=Value.ref a from rx)
  obtain ⟨mA,O,_⟩:=Jj I.hok ea
  obtain ⟨od,J,_⟩:=O.look
  exact kia_one (PySem.W.kitx_own (cl.get _) cl.hd ha hn htk hm) I.kIn J e (fun z=>nomatch z) h
end
end L2
namespace L2
open PySem PySem.Spec PyProof.Rows
structure Room (k:Nat) (A:Around):Prop where
 hd:A.handled=none
 dp:A.depth+3 * k+5 < recursionLimit
 un:A.units+16 * k+200 < cLine
theorem Room.mono {j k:Nat} {A:Around} (r:Room k A) (h:j<=k):Room j A:=⟨r.hd,by have:=r.dp; omega,by have:=r.un; omega⟩
theorem Room.deeper {k:Nat} {A:Around} (r:Room (k+1) A) (env:Env):Room k (A.deeper env):=
 ⟨r.hd,by have:=r.dp; show A.depth+1+3 * k+5 < _; omega,by have:=r.un; show A.units+3+16 * k+200 < _; omega⟩
theorem make_depth {A:Around} {C:Addr} {us:List Value} {kw:List (Str × Value)}:(A.under (.builtin "type.__call__" ⟨.ref C::us,kw⟩)).depth=A.depth+1:=by
 first|rfl|simp [Around.under,Code.weight,Code.isCreation,Code.isGuard,Code.isCaller,Code.frames,Code.isFrame,guardIds]
theorem make_units {A:Around} {C:Addr} {us:List Value} {kw:List (Str × Value)}:(A.under (.builtin "type.__call__" ⟨.ref C::us,kw⟩)).units=A.units+1:=by
 first|rfl|simp [Around.under,Code.cUnits,Code.frames,Code.isFrame]
theorem Room.make {k:Nat} {A:Around} (r:Room (k+1) A) (C:Addr) (us:List Value) (kw:List (Str × Value)):Room k (A.under (.builtin "type.__call__" ⟨.ref C::us,kw⟩)):=
 ⟨r.hd,by have:=r.dp; rw [make_depth]; omega,by have:=r.un; rw [make_units]; omega⟩
theorem Room.depth {k:Nat} {A:Around} (r:Room k A):A.depth < recursionLimit:=by have:=r.dp; omega
def tNil:TA:=fun _ H Q=>Q [] H
def tCons (ta:TE) (tr:TA):TA:=fun σ H Q=>ta σ H fun x H1=>tr σ H1 fun xs H2=>Q (x::xs) H2
section
variable {X:Cx} {e:Expr} {es:List Expr} {te:TE} {t:TA} {pos:Pos}
theorem zB:PA X [] tNil:=fun _ _ _ _ H Q I h=>Calls.spliced_nil ⟨[],H,I,.nil,h⟩
theorem zA (ha:PE X e te) (hr:PA X es t) (hs:starEach (e::es) X.env=(false,eval e X.env)::starEach es X.env:=by rfl):PA X (e::es) (tCons te t):=by
 intro pos pins s σ H Q I h
 rw [hs]
 show wpAny _ _ (spliced ((false,eval e X.env)::backTo pos (starEach es X.env))) _ _ s
 refine Calls.spliced_cons (thn (ha pins s σ H _ I h) fun u s1 zz=>?_)
 obtain ⟨x,H1,I1,r1,q1⟩:=zz
 exact thn (hr pos pins s1 σ H1 _ I1 q1) fun us s2 ⟨xs,H2,I2,r2,q2⟩=>⟨x::xs,H2,I2,.cons r1 r2,q2⟩
def tTup (t:TA):TE:=fun σ H Q=>t σ H fun xs H1=>xs.length<=sizeLine/\∀ p,H1 p=none->Q (.ref p) (upd H1 p (.tup xs))
def tLst (t:TA):TE:=fun σ H Q=>t σ H fun xs H1=>xs.length<=sizeLine/\∀ p,H1 p=none->Q (.ref p) (upd H1 p (.lst xs))
theorem zR {x1} (h:PA X es t):PE X (.Tuple es x1 pos) (tTup t):=by
 intro pins s σ H Q I hq
 refine wpAny_Tuple_spliced (thn (h pos pins s σ H _ I hq) fun us s1 ⟨xs,H1,I1,r,z,q⟩=>⟨by rw [<- r.length]; exact z,?_⟩)
 have hf:H1 s1.heap.objs.size=none:=I1.hok.fresh (Nat.le_refl _)
 refine ⟨.ref s1.heap.objs.size,upd H1 s1.heap.objs.size (.tup xs),I1.laid (t':=s1.toks) (fun b u e=>Heap.get?_push_of_some _ e) (Nat.le_refl _) ?_,rfl,q _ hf⟩
 exact ⟨z,us,r,⟨_,Heap.get?_push_size _ rfl,rfl,_,rfl⟩⟩
theorem zv (h:PA X es t):PE X (.List es pos) (tLst t):=by
 intro pins s σ H Q I hq
 refine wpAny_List_spliced (thn (h pos pins s σ H _ I hq) fun us s1 ⟨xs,H1,I1,r,z,q⟩=>⟨by rw [<- r.length]; exact z,?_⟩)
 have hf:H1 s1.heap.objs.size=none:=I1.hok.fresh (Nat.le_refl _)
 refine ⟨.ref s1.heap.objs.size,upd H1 s1.heap.objs.size (.lst xs),I1.laid (t':=s1.toks) (fun b u e=>Heap.get?_push_of_some _ e) (Nat.le_refl _) ?_,rfl,q _ hf⟩
 exact ⟨z,us,0,r,Heap.get?_push_size _ rfl⟩
end
abbrev Sp:=List V->Hp->VK->XK->Prop
abbrev CXT:=List Env->Hp->Shared->XK->Value->Shared->Prop
structure Env0 (P:Program) (w:World) (K:PySem.W.Frag) (mg:Str->Option Value) (base:Heap) (A:Around) (outer:List Env) (s:Shared) (H:Hp):Prop where
 frames:A.frames=some outer
 mod:Mod K mg base
 bs:∀ b o,base.get? b=some o->s.heap.get? b=some o/\H b=none
 bsz:base.objs.size<=s.heap.objs.size
 funs:s.heap.FunFrames base outer
 frf:∀ b∈frs outer,H b=none
 hok:HOk P w H s.heap
 bare:AllBare s.gens
def CE (outer:List Env) (P:Program) (w:World) (H:Hp) (s:Shared) (Q:VK) (u:Value) (s':Shared):Prop:=
 ∃ v H',s'.os=s.os/\AllBare s'.gens/\Un (frs outer) [] H H' s.heap s'.heap/\HOk P w H' s'.heap/\RelV v u/\Q v H'
def CR (CX:CXT) (outer:List Env) (P:Program) (w:World) (H:Hp) (s:Shared) (Q:VK) (E:XK) (r:Result) (s':Shared):Prop:=
 match r with
 |.ok (.ret u)=>CE outer P w H s Q u s'
 |.ok _=>False
 |.error e=>CX outer H s E e s'
structure FnOk (P:Program) (w:World) (K:PySem.W.Frag) (mg:Str->Option Value) (base:Heap) (CX:CXT) (k:Nat) (f:Addr) (fd:FuncData) (ps:List Str) (sp:Sp):Prop where
 len:∀ vs H Q E,sp vs H Q E->vs.length=ps.length
 run:∀ (A:Around) (outer:List Env) (s:Shared) (H:Hp) (args:Args) (us:List Value) (vs:List V) (Q:VK) (E:XK),Room k A->Env0 P w K mg base A outer s H->BindsTo s fd args (ps.zip us)->Vals vs us->sp vs H Q E->
  codeAny (model P w) A (.call (.ref f) args) (CR CX outer P w H s Q E) s
theorem FnOk.imp {P:Program} {w:World} {K:PySem.W.Frag} {mg:Str->Option Value} {base:Heap} {CX:CXT} {k:Nat} {f:Addr} {fd:FuncData} {ps:List Str} {sp sp':Sp} (F:FnOk P w K mg base CX k f fd ps sp)
  (h:∀ vs H Q E,sp' vs H Q E->sp vs H Q E):FnOk P w K mg base CX k f fd ps sp':=
 ⟨fun vs H Q E q=>F.len vs H Q E (h _ _ _ _ q),fun A outer s H args us vs Q E hr he hb hv hs=>F.run A outer s H args us vs Q E hr he hb hv (h _ _ _ _ hs)⟩
theorem Env0.make {P:Program} {w:World} {K:PySem.W.Frag} {mg:Str->Option Value} {base:Heap} {A:Around} {outer:List Env} {s:Shared} {H:Hp} (e:Env0 P w K mg base A outer s H) (C:Addr) (us:List Value) (kw:List (Str × Value)) :
  Env0 P w K mg base (A.under (.builtin "type.__call__" ⟨.ref C::us,kw⟩)) outer s H:=⟨by first|exact e.frames|(simpa [Around.under,Code.envs,Code.isFrame,pushEnvs] using e.frames),e.mod,e.bs,e.bsz,e.funs,e.frf,e.hok,e.bare⟩
section
variable {X:Cx} {pins:List (Addr × Obj)} {σ:St} {H:Hp} {s s':Shared}
theorem Inv.env0 (I:Inv X pins σ H s):Env0 X.prog X.w X.K X.mg X.base X.A X.stack s H:=
 ⟨I.ok.frames,I.ok.mod,I.bs,Nat.le_trans I.ok.bsz I.sz,I.stack,I.stkFree,I.hok,I.bare⟩
theorem Inv.after {Q:VK} {u:Value} (I:Inv X pins σ H s) (h:CE X.stack X.prog X.w H s Q u s'):EP X pins σ Q u s':=by
 obtain ⟨v,H',os,bare,un,hok,r,q⟩:=h
 obtain ⟨hh,g,d,t,os'⟩:=s'
 obtain rfl:os'=s.os:=os
 exact ⟨v,H',I.call (h':=hh) (g':=g) (d':=d) (t':=t) (ch:=[]) un hok bare (fun b z=>absurd z (by simp)),r,q⟩
end
def tCall (sp:Sp) (dvs:List V) (E:XK) (t:TA):TE:=fun σ H Q=>t σ H fun vs H1=>sp (vs++dvs) H1 Q E
def tMeth (C:Addr) (m:Str) (sp:Sp) (dvs:List V) (E:XK) (ta:TE) (t:TA):TE:=fun σ H Q=>ta σ H fun x H1=>∃ a dx fs,x=.ref a/\H1 a=some (.ins C dx fs)/\fs.lookup m=none/\
 t σ H1 fun vs H2=>sp (x::(vs++dvs)) H2 Q E
def tMake (C:Addr) (sp:Sp) (dvs:List V) (E:XK) (t:TA):TE:=fun σ H Q=>t σ H fun vs H1=>∀ x dx,H1 x=none->H1 dx=none->dx≠x->
 sp (.ref x::(vs++dvs)) (upd (upd H1 dx (.own x)) x (.ins C dx [])) (fun v H2=>v=.non/\Q (.ref x) H2) E
def Za (K:PySem.W.Frag) (fd:FuncData) (ps:List Str) (ds:List Value):Prop:=
 ∀ (s:Shared) (us:List Value),K.In s.heap->(us++ds).length=ps.length->BindsTo s fd ⟨us,[]⟩ (ps.zip (us++ds))
theorem Za.all {K:PySem.W.Frag} {fd:FuncData} {ps:List Str} (h:∀ us:List Value,us.length=ps.length->bindArgs fd ⟨us,[]⟩=pure (ps.zip us)):Za K fd ps []:=fun s us _ hl=>by
 rw [List.append_nil] at hl ⊢
 exact .of_eq (h us hl)
def jW (CX:CXT) (X:Cx) (E:XK):Prop:=∀ (pins:List (Addr × Obj)) (σ:St) (H:Hp) (s:Shared) (e:Value) (s':Shared),Inv X pins σ H s->CX X.stack H s E e s'->X.xe e s'
section
variable {X:Cx} {CX:CXT} {k:Nat} {f C:Addr} {fd:FuncData} {ps:List Str} {sp:Sp} {dvs:List V} {ds:List Value} {E:XK} {x m:Str} {p pos apos:Pos} {e o:Expr} {es:List Expr} {ta:TE} {t:TA}
theorem run_fn {pins:List (Addr × Obj)} {σ:St} {H:Hp} {s:Shared} {Q:VK} {us:List Value} {vs:List V} (F:FnOk X.prog X.w X.K X.mg X.base CX k f fd ps sp) (hr:Room k X.A) (hb:Za X.K fd ps ds) (hd:Vals dvs ds) (hx:jW CX X E)
  (I:Inv X pins σ H s) (r:Vals vs us) (h:sp (vs++dvs) H Q E):wpAny (model X.prog X.w) X.A (call (.ref f) us) (EP X pins σ Q) X.xe s:=by
 have r2:Vals (vs++dvs) (us++ds):=r.append hd
 have hl:(us++ds).length=ps.length:=by rw [<- r2.length]; exact F.len _ _ _ _ h
 refine wpAny_call (codeAny_mono (F.run X.A X.stack s H ⟨us,[]⟩ (us++ds) (vs++dvs) Q E hr I.env0 (hb s us I.kIn hl) r2 h) fun r s' hq=>?_)
 cases r with
 |error e=>exact hx pins σ H s e s' I hq
 |ok fl=>
  cases fl with
  |ret u=>exact I.after hq
  |next=>exact False.elim hq
  |brk=>exact False.elim hq
  |cont=>exact False.elim hq
theorem pe_call (F:FnOk X.prog X.w X.K X.mg X.base CX k f fd ps sp) (hr:Room k X.A) (hg:Gl X x) (hm:X.mg x=some (.ref f)) (hk:keepIn X.K (.ref f)=true) (hb:Za X.K fd ps ds) (hd:Vals dvs ds) (hx:jW CX X E)
  (ha:PA X (e::es) t) (hdb:(x == ("__debug__" : Str))=false:=by decide) (he:starEach (e::es) X.env=(false,eval e X.env)::starEach es X.env:=by rfl) (hpl:(backTo pos (starEach es X.env)).any (·.1)=false:=by rfl) :
  PE X (.Call (.Name x p) (e::es) [] pos) (tCall sp dvs E t):=by
 intro pins s σ H Q I h
 refine wpAny_Call_Name_kw (ld_glob I hg hm ?_ hdb)
 refine callWith_K (h₀:=X.base) I.ok.mod.kin hk (thn (ha pos pins s σ H _ I h) fun us s1 ⟨vs,H1,I1,r,q⟩=>⟨I1.kIn,?_⟩) he hpl
 exact run_fn F hr hb hd hx I1 r q
theorem pe_meth {pl:Sem Bool} (he:PE X o ta) (c:Cls X.K C) (hm:Meth X.K C m f) (F:FnOk X.prog X.w X.K X.mg X.base CX k f fd ps sp) (hr:Room k X.A) (hb:Za X.K fd ps ds) (hd:Vals dvs ds) (hx:jW CX X E) (ha:PA X (e::es) t)
  (hst:starEach (e::es) X.env=(false,eval e X.env)::starEach es X.env:=by rfl) (hpl:(backTo pos (starEach es X.env)).any (·.1)=false:=by rfl)
  (ht:eval (.Call (.Attribute o m apos) (e::es) [] pos) X.env=(do
   let ov <- eval o X.env
   standAt apos.atName
   let (f,first) <- holding [ov] (getMethod ov m pl)
   callWith pos f first (backTo pos (starEach (e::es) X.env)) (backToKw pos (keywordEach [] X.env))):=by rfl) :
  PE X (.Call (.Attribute o m apos) (e::es) [] pos) (tMeth C m sp dvs E ta t):=by
 intro pins s σ H Q I h
 refine PySem.W.methodCall_KW (pl:=pl) (thn (he pins s σ H _ I h) fun u s1 ⟨x,H1,I1,rx,a,dx,fs,ex,ea,l,q⟩=>?_) ht
 subst ex
 obtain rfl:u=Value.ref a:=rx
 refine J2 I1 ea c hm l ?_
 refine callWith_K (first:=[.ref a]) (h₀:=X.base) I.ok.mod.kin hm.kp (thn (ha pos pins s1 σ H1 _ I1 q) fun us s2 ⟨vs,H2,I2,r,q2⟩=>⟨I2.kIn,?_⟩) hst hpl
 exact run_fn (us:=.ref a::us) (vs:=.ref a::vs) F hr hb hd hx I2 (.cons rfl r) q2
theorem pe_meth0 {pl:Sem Bool} (he:PE X o ta) (c:Cls X.K C) (hm:Meth X.K C m f) (F:FnOk X.prog X.w X.K X.mg X.base CX k f fd ps sp) (hr:Room k X.A) (hb:Za X.K fd ps ds) (hd:Vals dvs ds) (hx:jW CX X E)
  (ht:eval (.Call (.Attribute o m apos) [] [] pos) X.env=(do
   let ov <- eval o X.env
   standAt apos.atName
   let (f,first) <- holding [ov] (getMethod ov m pl)
   callWith pos f first (backTo pos (starEach [] X.env)) (backToKw pos (keywordEach [] X.env))):=by rfl) :
  PE X (.Call (.Attribute o m apos) [] [] pos) (tMeth C m sp dvs E ta tNil):=by
 intro pins s σ H Q I h
 refine PySem.W.methodCall_KW (pl:=pl) (thn (he pins s σ H _ I h) fun u s1 ⟨x,H1,I1,rx,a,dx,fs,ex,ea,l,q⟩=>?_) ht
 subst ex
 obtain rfl:u=Value.ref a:=rx
 refine J2 I1 ea c hm l ?_
 exact PySem.W.callWith_K0 (first:=[.ref a]) I1.kIn hm.kp (run_fn (us:=[.ref a]) (vs:=[.ref a]) F hr hb hd hx I1 (.cons rfl .nil) q)
structure Mk (K:PySem.W.Frag) (C f:Addr):Prop where
 makes:makesIn K C=true
 init:findIn K (.ref C) "__init__"=some (some (.ref f))
 fn:isFn K (.ref f)=true
 kp:keepIn K (.ref C)=true
theorem run_make {pins:List (Addr × Obj)} {σ:St} {H:Hp} {s:Shared} {Q:VK} {us:List Value} {vs:List V} (M:Mk X.K C f) (F:FnOk X.prog X.w X.K X.mg X.base CX k f fd ps sp) (hr:Room (k+1) X.A) (hb:Za X.K fd ps ds) (hd:Vals dvs ds)
  (hx:jW CX X E) (I:Inv X pins σ H s) (r:Vals vs us)
  (h:∀ x dx,H x=none->H dx=none->dx≠x->sp (.ref x::(vs++dvs)) (upd (upd H dx (.own x)) x (.ins C dx [])) (fun v H2=>v=.non/\Q (.ref x) H2) E) :
  wpAny (model X.prog X.w) X.A (call (.ref C) us) (EP X pins σ Q) X.xe s:=by
 have hq:=h (s.heap.objs.size+1) s.heap.objs.size (I.hok.fresh (Nat.le_succ _)) (I.hok.fresh (Nat.le_refl _)) (Nat.ne_of_lt (Nat.lt_succ_self _))
 have I2:=Inv.made (C:=C) I
 have r2:Vals (V.ref (s.heap.objs.size+1)::(vs++dvs)) (Value.ref (s.heap.objs.size+1)::(us++ds)):=.cons rfl (r.append hd)
 have hl:(Value.ref (s.heap.objs.size+1)::us++ds).length=ps.length:=by
  have e:=r2.length
  rw [F.len _ _ _ _ hq] at e
  exact e.symm
 refine wpAny_call (make_map (f:=f) I.kIn M.makes M.init (beq_iff_eq.mp M.fn) (codeAny_mono (F.run _ X.stack _ _ ⟨Value.ref (s.heap.objs.size+1)::us,[]⟩ (Value.ref (s.heap.objs.size+1)::(us++ds)) _ _ E (hr.make C us [])
  (I2.env0.make C us []) (hb _ (Value.ref (s.heap.objs.size+1)::us) I2.kIn hl) r2 hq) fun r s' hq'=>?_))
 cases r with
 |error e=>exact hx pins σ _ _ e s' I2 hq'
 |ok fl=>
  cases fl with
  |ret u=>
   obtain ⟨v,H',I3,rv,ev,q3⟩:=I2.after hq'
   subst ev
   exact ⟨rv,⟨V.ref (s.heap.objs.size+1),H',I3,rfl,q3⟩⟩
  |next=>exact False.elim hq'
  |brk=>exact False.elim hq'
  |cont=>exact False.elim hq'
theorem pe_make (M:Mk X.K C f) (F:FnOk X.prog X.w X.K X.mg X.base CX k f fd ps sp) (hr:Room (k+1) X.A) (hg:Gl X x) (hm:X.mg x=some (.ref C)) (hb:Za X.K fd ps ds) (hd:Vals dvs ds) (hx:jW CX X E)
  (ha:PA X (e::es) t) (hdb:(x == ("__debug__" : Str))=false:=by decide) (he:starEach (e::es) X.env=(false,eval e X.env)::starEach es X.env:=by rfl) (hpl:(backTo pos (starEach es X.env)).any (·.1)=false:=by rfl) :
  PE X (.Call (.Name x p) (e::es) [] pos) (tMake C sp dvs E t):=by
 intro pins s σ H Q I h
 refine wpAny_Call_Name_kw (ld_glob I hg hm ?_ hdb)
 refine callWith_K (h₀:=X.base) I.ok.mod.kin M.kp (thn (ha pos pins s σ H _ I h) fun us s1 ⟨vs,H1,I1,r,q⟩=>⟨I1.kIn,?_⟩) he hpl
 exact run_make M F hr hb hd hx I1 r q
end
section
variable {X:Cx} {CX:CXT} {k:Nat} {f C:Addr} {fd:FuncData} {ps ks:List Str} {sp:Sp} {E:XK} {x m:Str} {p pos apos kpos:Pos} {e o:Expr} {es:List Expr} {kws:List Keyword} {te ta:TE} {t tk:TA} {nm:Option Str}
variable {g:List Value->List Value->List Value} {gV:List V->List V->List V}
end
structure FnScope (N P:List Str) (sc:Scope):Prop where
 kind:sc.kind=.function
 co:sc.isCoroutine=false
 gen:sc.isGenerator=false
 nd:N.Nodup
 pre:N.take P.length=P
 par:∀ x∈P,sc.names.lookup x=some .local\/sc.names.lookup x=some .cell
 nofree:∀ y∈sc.names,y.2≠.free
theorem bindL_out {kindOf:Str->Option NameKind} {x:Str}:∀ {binds:List (Str × Value)} {m:Str->Option Value},(∀ v,(x,v)∉binds)->bindL kindOf binds m x=m x
 |[],_,_=>rfl
 | (n,v)::r,m,h=>by
  unfold bindL
  rw [bindL_out fun w hw=>h w (List.mem_cons_of_mem _ hw)]
  split
  ·have:x≠n:=by rintro rfl; exact h v List.mem_cons_self
   simp [this]
  ·rfl
theorem bindC_out {kindOf:Str->Option NameKind} {x:Str}:∀ {binds:List (Str × Value)} {m:Str->Option Value},(∀ v,(x,v)∉binds)->bindC kindOf binds m x=m x
 |[],_,_=>rfl
 | (n,v)::r,m,h=>by
  unfold bindC
  rw [bindC_out fun w hw=>h w (List.mem_cons_of_mem _ hw)]
  split
  ·rfl
  ·have:x≠n:=by rintro rfl; exact h v List.mem_cons_self
   simp [this]
theorem bindL_get {kindOf:Str->Option NameKind} {x:Str} {v:Value}:∀ {P:List Str} {vs:List Value} {i:Nat} {m:Str->Option Value},P.Nodup->P[i]?=some x->vs[i]?=some v->kindOf x=some .local->
  bindL kindOf (P.zip vs) m x=some v
 |[],_,_,_,_,h,_,_=>by simp at h
 |_::_,[],_,_,_,_,h,_=>by simp at h
 |p::P,w::vs,0,m,nd,h1,h2,hk=>by
  simp at h1 h2; subst h1; subst h2
  show bindL kindOf ((p,w)::P.zip vs) m p=_
  unfold bindL
  rw [bindL_out fun v hv=>(List.nodup_cons.mp nd).1 (List.of_mem_zip hv).1,if_pos hk]
  simp
 |p::P,w::vs,i+1,m,nd,h1,h2,hk=>by
  show bindL kindOf ((p,w)::P.zip vs) m x=_
  unfold bindL
  exact bindL_get (i:=i) (List.nodup_cons.mp nd).2 (by simpa using h1) (by simpa using h2) hk
theorem bindC_get {kindOf:Str->Option NameKind} {x:Str} {v:Value}:∀ {P:List Str} {vs:List Value} {i:Nat} {m:Str->Option Value},P.Nodup->P[i]?=some x->vs[i]?=some v->kindOf x≠some .local->
  bindC kindOf (P.zip vs) m x=some v
 |[],_,_,_,_,h,_,_=>by simp at h
 |_::_,[],_,_,_,_,h,_=>by simp at h
 |p::P,w::vs,0,m,nd,h1,h2,hk=>by
  simp at h1 h2; subst h1; subst h2
  show bindC kindOf ((p,w)::P.zip vs) m p=_
  unfold bindC
  rw [bindC_out fun v hv=>(List.nodup_cons.mp nd).1 (List.of_mem_zip hv).1,if_neg hk]
  simp
 |p::P,w::vs,i+1,m,nd,h1,h2,hk=>by
  show bindC kindOf ((p,w)::P.zip vs) m x=_
  unfold bindC
  exact bindC_get (i:=i) (List.nodup_cons.mp nd).2 (by simpa using h1) (by simpa using h2) hk
def Yc (N:List Str) (vs:List V):St:=vs.map some++List.replicate (N.length - vs.length) none
def cxOf (CX:CXT) (P:Program) (w:World) (K:PySem.W.Frag) (mg:Str->Option Value) (base:Heap) (N:List Str) (qual:Str) (scope:Scope) (f:Addr) (cd:Value) (A:Around) (outer:List Env) (s:Shared) (H:Hp) (E:XK):Cx where
 prog:=P
 w:=w
 K:=K
 mg:=mg
 base:=base
 A:=A.deeper (envOfC qual scope s.heap.objs.size f cd)
 N:=N
 s₀:=s
 H₀:=H
 env:=envOfC qual scope s.heap.objs.size f cd
 outer:=outer
 stack:=envOfC qual scope s.heap.objs.size f cd::outer
 ex:=[]
 calm:=true
 fn:=fun _=>true
 pn:=[]
 xe:=fun e s'=>wpAny (model P w) (A.deeper (envOfC qual scope s.heap.objs.size f cd)) (leaving (envOfC qual scope s.heap.objs.size f cd) e) (fun _ s''=>CX outer H s E e s'') (fun e' s''=>CX outer H s E e' s'') s'
theorem cell_has {sc:Scope} {n:Nat} {x:Str} (h:sc.names.lookup x=some .cell):∃ c,(cellsFrom n sc.names []).lookup x=some c:=by
 have q:=PySem.W.cellsFrom_some sc.names n [] (.inl h)
 exact Option.isSome_iff_exists.mp q
theorem inv_start {CX:CXT} {P:Program} {w:World} {K:PySem.W.Frag} {mg:Str->Option Value} {base:Heap} {N ps:List Str} {qual:Str} {scope:Scope} {f:Addr} {cd:Value} {A:Around} {outer:List Env} {s s1:Shared} {H:Hp} {E:XK} {us:List Value} {vs:List V}
  (S:FnScope N ps scope) (hd:A.handled=none) (e0:Env0 P w K mg base A outer s H) (hl:vs.length=ps.length) (r:Vals vs us)
  (x:InCallC s s.heap.objs.size (bindL (envOfC qual scope s.heap.objs.size f cd).kindOf (ps.zip us) fun _=>none) (cellsFrom (s.heap.objs.size+1) scope.names []) (bindC (envOfC qual scope s.heap.objs.size f cd).kindOf (ps.zip us) fun _=>none) s1) :
  Inv (cxOf CX P w K mg base N qual scope f cd A outer s H E) [] (Yc N vs) H s1:=by
 have hpl:ps.length<=N.length:=by have:=congrArg List.length S.pre; rw [List.length_take] at this; omega
 obtain ⟨h1,tk,rfl,hk⟩:=x.done
 have noA:∀ b:Addr,b∉(cxOf CX P w K mg base N qual scope f cd A outer s H E).ex:=fun b z=>absurd (show b∈([]:List Addr) from z) (by simp)
 refine ⟨⟨e0.mod,S.kind,rfl,rfl,Nat.le_refl _,fun y z c h1 h2=>?_,fun y hy=>?_,fun y c _ h=>?_,fun _=>hd,Around.frames_deeper e0.frames,.inr ⟨rfl,rfl⟩,fun b z=>absurd z (noA b),e0.bs,e0.bsz,fun b _ _=>noA b,fun b z=>absurd z (noA b),e0.funs,e0.frf⟩,
  rfl,e0.bare,Un.kept hk,⟨_,x.toInCall.ns,fun i y v h1 h2 h3=>?_⟩,fun y c h=>⟨_,x.cell y c h⟩,e0.hok.fresh (Nat.le_refl _),fun y c h=>?_,fun p hp=>absurd (show p∈([]:List (Addr × Obj)) from hp) (by simp),e0.hok.kept hk,?_⟩
 ·exact name_of_addr x.apart (PySem.mem_of_lookup h1) (PySem.mem_of_lookup h2)
 ·have hy:scope.names.lookup y=some .cell\/scope.names.lookup y=some .free:=hy
  rcases hy with hy|hy
  ·exact cell_has hy
  ·exact absurd rfl (S.nofree _ (PySem.mem_of_lookup hy))
 ·exact Nat.le_of_lt (x.above y c (PySem.mem_of_lookup h))
 ·have hi:i < vs.length:=by
   unfold Yc at h2
   by_cases hi:i < vs.length
   ·exact hi
   ·rw [List.getElem?_append_right (by simpa using hi)] at h2
    rw [List.getElem?_replicate] at h2
    split at h2<;>cases h2
  have ha:vs[i]?=some v:=by
   unfold Yc at h2
   rw [List.getElem?_append_left (by simpa using hi),List.getElem?_map] at h2
   cases e:vs[i]? with
   |none=>rw [e] at h2; cases h2
   |some a=>rw [e] at h2; cases h2; rfl
  obtain ⟨u,hu,rv⟩:=r.get ha
  have hp:ps[i]?=some y:=by
   rw [<- S.pre,List.getElem?_take_of_lt (by omega)]; exact h1
  have ndP:ps.Nodup:=by rw [<- S.pre]; exact S.nd.sublist (List.take_sublist _ _)
  refine ⟨u,rv,?_⟩
  rcases S.par y (List.mem_of_getElem? hp) with k|k
  ·exact .inl ⟨k,bindL_get ndP hp hu k⟩
  ·obtain ⟨c,e⟩:=cell_has (n:=s.heap.objs.size+1) k
   refine .inr ⟨.inl k,c,e,?_⟩
   have q:=x.cell y c e
   rw [bindC_get ndP hp hu (by show scope.names.lookup y≠_; rw [k]; decide)] at q
   exact q
 ·exact e0.hok.fresh (Nat.le_of_lt (x.above y c (PySem.mem_of_lookup h)))
 ·unfold Yc
  show _=N.length
  rw [List.length_append,List.length_map,List.length_replicate]
  omega
theorem fn_of {CX:CXT} {P:Program} {w:World} {K:PySem.W.Frag} {mg:Str->Option Value} {base:Heap} {k:Nat} {f:Addr} {name qual:Str} {params:Arguments} {body:List Stmt} {scope:Scope} {dV kV doc pm cdv ct oc:Value} {an od:Option Addr}
  {osl:Array (Option Value)} {N ps:List Str} {sp:Sp} (lk:K.lookup f=some ⟨oc,od,.func (fnOf name qual params body scope dV kV doc pm an cdv ct),osl⟩) (hcd:codeIn K cdv qual=true) (S:FnScope N ps scope)
  (len:∀ vs H Q E,sp vs H Q E->vs.length=ps.length)
  (hbody:∀ (A:Around) (outer:List Env) (s:Shared) (H:Hp) (vs:List V) (Q:VK) (E:XK),Room k (A.deeper (envOfC qual scope s.heap.objs.size f cdv))->sp vs H Q E->
   ∃ t,PSs (cxOf CX P w K mg base N qual scope f cdv A outer s H E) body t/\t {nx:=fun _ H'=>Q .non H',rt:=Q} (Yc N vs) H) :
  FnOk P w K mg base CX (k+1) f (fnOf name qual params body scope dV kV doc pm an cdv ct) ps sp:=by
 refine ⟨len,fun A outer s H args us vs Q E hr e0 hb r hsp=>?_⟩
 have hl:=len _ _ _ _ hsp
 have KX:K.In s.heap:=e0.mod.kin.keeps fun b o e=>(e0.bs b o e).1
 have lim:s.heap.NoLimit:=e0.mod.nolimit.keeps fun b o e=>(e0.bs b o e).1
 have hkind:∀ y∈ps.zip us,scope.names.lookup y.1=some .local\/(scope.names.lookup y.1=some .cell/\((cellsFrom (s.heap.objs.size+1) scope.names []).lookup y.1).isSome=true):=fun ⟨n,v⟩ hy=>by
  rcases S.par n (List.of_mem_zip hy).1 with q|q
  ·exact .inl q
  ·exact .inr ⟨q,PySem.W.cellsFrom_some _ _ _ (.inl q)⟩
 refine codeAny_call_function hr.depth (KX _ _ lk) rfl S.co S.gen rfl (PySem.W.codeRec_of KX hcd) (hb _ _ _ _ ?_)
 refine wpAny_newFunctionEnv_cells S.kind hkind fun env he s1 x=>?_
 subst he
 refine ⟨lim.keeps x.toInCall.keep,codeAny_func ?_⟩
 obtain ⟨t,ht,hq⟩:=hbody A outer s H vs Q E (hr.deeper _) hsp
 have I:Inv (cxOf CX P w K mg base N qual scope f cdv A outer s H E) [] (Yc N vs) H s1:=inv_start S hr.hd e0 hl r x
 refine wpAny_mono (ht [] s1 (Yc N vs) H _ I hq) (fun fl s' hs=>?_) fun e s' hs=>hs
 have fin:∀ {σ':St} {H':Hp} {v:V} {u:Value},Inv (cxOf CX P w K mg base N qual scope f cdv A outer s H E) [] σ' H' s'->RelV v u->Q v H'->CE outer P w H s Q u s':=
  fun {σ' H' v u} J rv q=>⟨v,H',J.os,J.bare,J.base,J.hok,rv,q⟩
 cases fl with
 |ret u=>
  obtain ⟨v,σ',H',J,rv,q⟩:=hs
  exact fin J rv q
 |next=>
  obtain ⟨σ',H',J,q⟩:=hs
  exact fin (v:=V.non) (u:=Value.none) J rfl q
 |brk=>
  obtain ⟨_,_,_,q⟩:=hs
  exact False.elim q
 |cont=>
  obtain ⟨_,_,_,q⟩:=hs
  exact False.elim q
end L2
namespace L2
open PySem PySem.Spec PyProof.Rows
section
variable {X:Cx} {x:Str} {p pos:Pos} {e:Expr} {es:List Expr} {t:TA} {id T:String} {r:List V->Hp->VK->Prop}
def tCB (r:List V->Hp->VK->Prop) (t:TA):TE:=fun σ H Q=>t σ H fun vs H1=>r vs H1 Q
theorem zV (hc:jJ X (.builtin id) r) (hg:Gl X x) (hm:X.mg x=none) (hv:bootBuiltins x=some (.builtin id)) (ha:PA X (e::es) t) (hn:x≠"__name__":=by decide) (hdb:(x == ("__debug__" : Str))=false:=by decide)
  (he:starEach (e::es) X.env=(false,eval e X.env)::starEach es X.env:=by rfl) (hpl:(backTo pos (starEach es X.env)).any (·.1)=false:=by rfl):PE X (.Call (.Name x p) (e::es) [] pos) (tCB r t):=by
 intro pins s σ H Q I h
 refine wpAny_Call_Name_kw (YI I hg hm hv ?_ hn hdb)
 exact PyProof.Rows.callWith_builtin1 (thn (ha pos pins s σ H _ I h) fun us s1 ⟨vs,H1,I1,r1,q1⟩=>hc pins s1 σ H1 vs us Q I1 r1 q1) he hpl
theorem yW (hc:jJ X (.type T) r) (hg:Gl X x) (hm:X.mg x=none) (hv:bootBuiltins x=some (.type T)) (ha:PA X (e::es) t) (hn:x≠"__name__":=by decide) (hdb:(x == ("__debug__" : Str))=false:=by decide)
  (he:starEach (e::es) X.env=(false,eval e X.env)::starEach es X.env:=by rfl) (hpl:(backTo pos (starEach es X.env)).any (·.1)=false:=by rfl):PE X (.Call (.Name x p) (e::es) [] pos) (tCB r t):=by
 intro pins s σ H Q I h
 refine wpAny_Call_Name_kw (YI I hg hm hv ?_ hn hdb)
 exact PyProof.Rows.callWith_type1 (thn (ha pos pins s σ H _ I h) fun us s1 ⟨vs,H1,I1,r1,q1⟩=>hc pins s1 σ H1 vs us Q I1 r1 q1) he hpl
end
end L2
namespace HT
open PySem PyProof.Rows
section
open PySem.SeqAt
open PySem.AutoSeq1 (wpAny_loadPart')
open PySem.MeetsSeq PySem.MeetsSeq2 PySem.MeetsSeq3
end
section
variable {prog:Program} {w:World} {A:Around} {E:Value->Shared->Prop} {s:Shared}
theorem cat_tup {t b:Addr} {vs ws:List Value} {Q:Value->Shared->Prop} (ht:IsTup s.heap t vs.toArray) (hb:IsTup s.heap b ws.toArray) (hv:vs≠[])
  (h1:ws=[]->Q (.ref t) s) (h2:ws≠[]->Q (.ref s.heap.objs.size) {s with heap:=s.heap.push {cls:=.type "tuple",data:=.seq (vs++ws).toArray}})
  (hsz:vs.length+ws.length<=sizeLine):wpAny (model prog w) A (binaryOp .Add (.ref t) (.ref b)) Q E s:=by
 obtain ⟨⟨cls,dd,data,sl⟩,ho,hc,n,hd⟩:=id ht
 obtain ⟨⟨cls2,dd2,data2,sl2⟩,ho2,hc2,n2,hd2⟩:=id hb
 simp only at hc hd hc2 hd2
 subst hc hd hc2 hd2
 have e:vs.toArray++ws.toArray=(vs++ws).toArray:=by simp
 by_cases hw:ws=[]
 ·exact concat_meets ⟨_,ho,rfl⟩ ⟨_,ho2,rfl⟩ noFill_tuple_add seq_tuple_add PySem.F.slot_tuple_add PySem.F.entry_tuple_add (PySem.F.args_tuple_add_2 _ _)
   (tuple_addW1 t b vs.toArray ws.toArray n n2 dd dd2 sl sl2 (by simpa using hv) (by simp [hw])) ⟨ho,ho2,h1 hw⟩
 ·refine concat_meets ⟨_,ho,rfl⟩ ⟨_,ho2,rfl⟩ noFill_tuple_add seq_tuple_add PySem.F.slot_tuple_add PySem.F.entry_tuple_add (PySem.F.args_tuple_add_2 _ _)
   (tuple_addW2 t b vs.toArray ws.toArray n n2 dd dd2 sl sl2 (by simpa using hv) (by simpa using hw) (by rw [List.size_toArray,List.size_toArray]; exact hsz)) ⟨ho,ho2,?_⟩
  rw [e]
  exact h2 hw
def sIx (n d:Nat):Option Int->Nat
 |none=>d
 |some v=>if v < 0 then (v+(n:Int)).toNat else min v.toNat n
theorem sIx_none (n d:Nat):sIx n d none=d:=rfl
theorem sIx_nat (n d k:Nat):sIx n d (some (k:Int))=min k n:=by
 show (if (k:Int) < 0 then ((k:Int)+(n:Int)).toNat else min (k:Int).toNat n)=min k n
 rw [if_neg (by omega),Int.toNat_natCast]
theorem sIx_le (n d:Nat) (hd:d<=n) (o:Option Int):sIx n d o<=n:=by
 cases o with
 |none=>exact hd
 |some v=>
  show (if v < 0 then (v+(n:Int)).toNat else min v.toNat n)<=n
  by_cases hv:v < 0
  ·rw [if_pos hv]; omega
  ·rw [if_neg hv]; exact Nat.min_le_right _ _
theorem clip_eq (v:Int) (n d:Nat):(if v < 0 then max (v+(n:Int)) 0 else min v (n:Int))=((sIx n d (some v):Nat):Int):=by
 show (if v < 0 then max (v+(n:Int)) 0 else min v (n:Int))=(((if v < 0 then (v+(n:Int)).toNat else min v.toNat n):Nat):Int)
 by_cases hv:v < 0
 ·simp only [if_pos hv]; omega
 ·simp only [if_neg hv]; omega
theorem adjust_gen (lo hi:Option Int) (n:Nat):Builtin.Slice.sliceAdjust lo hi 1 (n:Int)=(((sIx n 0 lo:Nat):Int),((sIx n n hi:Nat):Int)):=by
 have h1:¬ ((1:Int) < 0):=by omega
 unfold Builtin.Slice.sliceAdjust
 simp only [h1,if_false]
 refine Prod.ext ?_ ?_
 ·cases lo with
  |none=>rfl
  |some v=>exact clip_eq v n 0
 ·cases hi with
  |none=>rfl
  |some v=>exact clip_eq v n n
theorem places_gen (i j:Nat):Builtin.Slice.slicePlaces (i:Int) (j:Int) 1=j - i:=by
 unfold Builtin.Slice.slicePlaces
 have h1:(1:Int) > 0:=by omega
 simp only [h1,if_true,Int.ediv_one]
 split<;>omega
theorem zAG {v:Value} {o:Option Int} {Q:Option Int->Shared->Prop} (p:IsPart v o) (h:Q o s):wpAny (model prog w) A (Builtin.Slice.slicePartIndex v) Q E s:=by
 cases p with
 |none=>exact slicePart_none h
 |int i t=>exact slicePart_int h
theorem sliceApplied_gen {sl:Addr} {vl vu:Value} {lo hi:Option Int} {n:Nat} {Q:Int × Int × Nat->Shared->Prop} (hs:s.heap.IsSliceOf sl vl vu .none) (pl:IsPart vl lo) (pu:IsPart vu hi)
  (h:Q (((sIx n 0 lo:Nat):Int),1,sIx n n hi - sIx n 0 lo) s):wpAny (model prog w) A (Builtin.Slice.sliceApplied (.ref sl) (pure (n:Int))) Q E s:=by
 obtain ⟨os,hos,hcs,hds⟩:=id hs
 unfold Builtin.Slice.sliceApplied Builtin.Slice.sliceFields
 refine wpAny_bind (wpAny_bind (wpAny_field hos hds (x:=vl) rfl (wpAny_bind (wpAny_field hos hds (x:=vu) rfl (wpAny_bind (wpAny_field hos hds (x:=.none) rfl (wpAny_pure ?_)))))))
 refine wpAny_bind (slicePart_none ?_)
 show wpAny _ _ (if ((1:Int) == 0)=true then _ else _) _ _ s
 rw [if_neg (by decide)]
 refine wpAny_bind (zAG pl (wpAny_bind (zAG pu (wpAny_bind (wpAny_pure ?_)))))
 show wpAny _ _ (match Builtin.Slice.sliceAdjust lo hi 1 (n:Int) with|(lo,hi)=>pure (lo,(1:Int),Builtin.Slice.slicePlaces lo hi 1)) _ _ s
 rw [adjust_gen lo hi n]
 show wpAny _ _ (pure (((sIx n 0 lo:Nat):Int),(1:Int),Builtin.Slice.slicePlaces ((sIx n 0 lo:Nat):Int) ((sIx n n hi:Nat):Int) 1)) _ _ s
 rw [places_gen]
 exact wpAny_pure h
theorem pick_gen (xs:Array Value) (i k:Nat):((List.range k).filterMap fun (m:Nat)=>xs[((i:Int)+(m:Int) * 1).toNat]?).toArray=((xs.toList.drop i).take k).toArray:=by
 have e:(fun (m:Nat)=>xs[((i:Int)+(m:Int) * 1).toNat]?)=fun m=>xs[i+m]?:=by
  funext m
  have:((i:Int)+(m:Int) * 1).toNat=i+m:=by omega
  rw [this]
 rw [e]
 have:=pick_run xs i k
 rw [List.filterMap_map] at this
 have e2:((fun x=>xs[x]?) ∘ fun x=>i+x)=fun m=>xs[i+m]?:=rfl
 rw [e2] at this
 rw [this]
theorem getItem_tuple_cut {t sl:Addr} {items:Array Value} {vl vu:Value} {lo hi:Option Int} {Q:Value->Shared->Prop} (ht:IsTup s.heap t items) (hs:s.heap.IsSliceOf sl vl vu .none) (pl:IsPart vl lo) (pu:IsPart vu hi)
  (hw:¬ (sIx items.size 0 lo=0/\sIx items.size items.size hi=items.size))
  (h:Q (.ref s.heap.objs.size) {s with heap:=s.heap.push {cls:=.type "tuple",data:=.seq ((items.toList.drop (sIx items.size 0 lo)).take (sIx items.size items.size hi - sIx items.size 0 lo)).toArray}})
  (hsz:items.size<=sizeLine):wpAny (model prog w) A (getItem (.ref t) (.ref sl)) Q E s:=by
 have htake:sizeOk (.seq ((items.toList.drop (sIx items.size 0 lo)).take (sIx items.size items.size hi - sIx items.size 0 lo)).toArray):=by
  show ((items.toList.drop (sIx items.size 0 lo)).take (sIx items.size items.size hi - sIx items.size 0 lo)).toArray.size<=sizeLine
  rw [List.size_toArray,List.length_take,List.length_drop,Array.length_toList]
  omega
 have hj:sIx items.size items.size hi<=items.size:=sIx_le _ _ (Nat.le_refl _) hi
 obtain ⟨os,hos,hcs,hds⟩:=id hs
 have hTs:s.TypeIs (.ref sl) "slice":=⟨os,hos,hcs⟩
 unfold getItem
 try with_reducible refine wpAny_holding ?_
 first|refine wpAny_bind (wpAny_pure ?_)|skip
 refine wpAny_bind (wpAny_sequenceKey ht.typeIs (by decide) ?_)
 refine wpAny_bind (wpAny_callSpecial?_slot (name:=Str.ofString "__getitem__") ht.typeIs PyProof.Rows.slot_tuple_getitem
  (wpAny_call_entry PyProof.Rows.slot_tuple_getitem ht.typeIs entry_tuple_getitem ?_ (args_tuple_getitem _ _)))
 show wpAny _ _ (Builtin.Tuple.tupleItemsOf (.ref t) >>= _) _ _ s
 refine wpAny_bind (tupleItemsOf_ ht ?_)
 refine wpAny_bind (wpAny_typeOf hTs ?_)
 rw [if_pos (by decide)]
 refine wpAny_bind (sliceApplied_gen hs pl pu ?_)
 have hno:¬ ((((sIx items.size 0 lo:Nat):Int) == 0 && (1:Int) == 1 && (sIx items.size items.size hi - sIx items.size 0 lo) == items.size)=true):=by
  intro q
  rw [Bool.and_eq_true,Bool.and_eq_true] at q
  have q1:((sIx items.size 0 lo:Nat):Int)=0:=eq_of_beq q.1.1
  have q2:sIx items.size items.size hi - sIx items.size 0 lo=items.size:=eq_of_beq q.2
  exact hw ⟨by omega,by omega⟩
 show wpAny _ _ (if (((sIx items.size 0 lo:Nat):Int) == 0 && (1:Int) == 1 && (sIx items.size items.size hi - sIx items.size 0 lo) == items.size)=true then _ else _) _ _ s
 rw [if_neg hno,pick_gen]
 first
  |exact wpAny_bind (m:=Builtin.Tuple.tupleExact _) (wpAny_newObj_type (wpAny_pure ⟨_,rfl,wpAny_pure h⟩) htake)
  |exact wpAny_bind (m:=Builtin.Tuple.tupleExact _) (wpAny_newObj_type (wpAny_bind (wpAny_pure (wpAny_pure ⟨_,rfl,wpAny_pure h⟩))) htake)
  |exact wpAny_bind (wpAny_bind (m:=Builtin.Tuple.tupleExact _) (wpAny_newObj_type (wpAny_pure (wpAny_pure ⟨_,rfl,wpAny_pure h⟩)) htake))
  |exact wpAny_bind (wpAny_bind (m:=Builtin.Tuple.tupleExact _) (wpAny_newObj_type (wpAny_pure ⟨_,rfl,wpAny_pure h⟩) htake))
end
end HT
namespace L2
open PySem PySem.Spec PyProof.Rows
abbrev TO:=St->Hp->(Option Int->Hp->Prop)->Prop
def PO (X:Cx) (e:Option Expr) (t:TO):Prop:=
 ∀ (pins:List (Addr × Obj)) (s:Shared) (σ:St) (H:Hp) (Q:Option Int->Hp->Prop),Inv X pins σ H s->t σ H Q->
  wpAny (model X.prog X.w) X.A (evalPart e X.env) (fun u s'=>∃ o H',Inv X pins σ H' s'/\IsPart u o/\Q o H') X.xe s
def tNoPart:TO:=fun _ H Q=>Q none H
def tPart (t:TE):TO:=fun σ H Q=>t σ H fun x H1=>∃ i,x=.int i/\Q (some i) H1
section
variable {X:Cx} {e:Expr} {te:TE} {lo hi:Option Expr} {tl th:TO} {pos p2:Pos}
theorem JW:PO X none tNoPart:=by
 intro pins s σ H Q I h
 rw [evalPart_none]
 exact wpAny_pure ⟨none,H,I,.none,h⟩
theorem Jk (h:PE X e te):PO X (some e) (tPart te):=by
 intro pins s σ H Q I hw
 rw [evalPart_some]
 refine thn (h pins s σ H _ I hw) fun u s1 zz=>?_
 obtain ⟨x,H1,I1,r1,q1⟩:=zz
 obtain ⟨i,rfl,q⟩:=q1
 obtain ⟨t,rfl⟩:=r1
 exact ⟨some i,H1,I1,.int i t,q⟩
def SlR (X:Cx) (r:V->Option Int->Option Int->Hp->VK->Prop):Prop:=
 ∀ (pins:List (Addr × Obj)) (s:Shared) (σ:St) (H:Hp) (x:V) (v vl vu:Value) (lo hi:Option Int) (sl:Addr) (Q:VK),Inv X pins σ H s->RelV x v->s.heap.IsSliceOf sl vl vu .none->IsPart vl lo->IsPart vu hi->r x lo hi H Q->
  ∃ T id,typeLookup (.type T) "__getitem__"=pure (some (.builtin id))/\s.TypeIs v T/\wpAny (model X.prog X.w) X.A (getItem v (.ref sl)) (EP X pins σ Q) X.xe s
def tSl (r:V->Option Int->Option Int->Hp->VK->Prop) (te:TE) (tl th:TO):TE:=fun σ H Q=>te σ H fun x H1=>tl σ H1 fun l H2=>th σ H2 fun u H3=>r x l u H3 Q
theorem Yi {r:V->Option Int->Option Int->Hp->VK->Prop} (hr:SlR X r) (he:PE X e te) (hl:PO X lo tl) (hu:PO X hi th):PE X (.Subscript e (.Slice lo hi none p2) pos) (tSl r te tl th):=by
 intro pins s σ H Q I h
 refine Subscript_ (thn (he pins s σ H _ I h) fun v s1 zz=>?_)
 obtain ⟨x,H1,I1,r1,q1⟩:=zz
 refine wpAny_Slice (thn (hl pins s1 σ H1 _ I1 q1) fun vl s2 ⟨l,H2,I2,pl,q2⟩=>thn (hu pins s2 σ H2 _ I2 q2) fun vu s3 zz=>?_)
 obtain ⟨u,H3,I3,pu,q3⟩:=zz
 rw [evalPart_none]
 refine wpAny_pure ?_
 have I4:Inv X pins σ H3 {s3 with heap:=s3.heap.push {cls:=.type "slice",data:=.fields #[vl,vu,.none]}}:=I3.kept (t':=s3.toks) fun b ob q=>Heap.get?_push_of_some _ q
 obtain ⟨T,id,hT,ht,hg⟩:=hr pins {s3 with heap:=s3.heap.push {cls:=.type "slice",data:=.fields #[vl,vu,.none]}} σ H3 x v vl vu l u s3.heap.objs.size Q I4 r1 (Heap.IsSliceOf.new ..) pl pu q3
 show wpAny (model X.prog X.w) X.A (subscriptTail e (.Slice lo hi none p2) v (.ref s3.heap.objs.size)) (EP X pins σ Q) X.xe {s3 with heap:=s3.heap.push {cls:=.type "slice",data:=.fields #[vl,vu,.none]}}
 exact tail_any (ops:=[.ref s3.heap.objs.size,v]) ht hT hg (by with_unfolding_all rfl)
def cutV (xs:List V) (lo hi:Option Int):List V:=(xs.drop (HT.sIx xs.length 0 lo)).take (HT.sIx xs.length xs.length hi - HT.sIx xs.length 0 lo)
theorem JE (xs:List V) (lo hi:Option Int):(cutV xs lo hi).length<=xs.length:=by
 unfold cutV
 rw [List.length_take,List.length_drop]
 omega
def rSlT (K:PySem.W.Frag):V->Option Int->Option Int->Hp->VK->Prop:=fun x lo hi H Q=>∃ a xs,x=.ref a/\SqT K H a xs/\
 ¬ (HT.sIx xs.length 0 lo=0/\HT.sIx xs.length xs.length hi=xs.length)/\∀ p,H p=none->Q (.ref p) (upd H p (.tup (cutV xs lo hi)))
theorem sl_tup:SlR X (rSlT X.K):=by
 intro pins s σ H x v vl vu lo hi sl Q I rx hs pl pu h
 obtain ⟨a,xs,rfl,hx,hw,q⟩:=h
 cases rx
 obtain ⟨its,r,ht,hz⟩:=I.tuple hx
 have hlen:its.toArray.size=xs.length:=by rw [List.size_toArray]; exact r.length.symm
 refine ⟨"tuple",_,PyProof.Rows.slot_tuple_getitem.lookup,ht.typeIs,?_⟩
 refine HT.getItem_tuple_cut ht hs pl pu (by rw [hlen]; exact hw) ?_ (by rw [hlen]; exact hz)
 rw [hlen]
 refine ⟨.ref s.heap.objs.size,_,I.laid (t':=s.toks) (o:=.tup (cutV xs lo hi)) (fun b ob q=>Heap.get?_push_of_some _ q) (Nat.le_refl _) ?_,rfl,q _ (I.hok.fresh (Nat.le_refl _))⟩
 exact ⟨Nat.le_trans (JE xs lo hi) hz,_,(r.drop (HT.sIx xs.length 0 lo)).take (HT.sIx xs.length xs.length hi - HT.sIx xs.length 0 lo),IsTup.new _ _⟩
def rCatT (K:PySem.W.Frag):R2:=fun x y H Q=>∃ a b xs ys,x=.ref a/\y=.ref b/\SqT K H a xs/\SqT K H b ys/\xs≠[]/\xs.length+ys.length<=sizeLine/\
 (ys=[]->Q (.ref a) H)/\(ys≠[]->∀ p,H p=none->Q (.ref p) (upd H p (.tup (xs++ys))))
theorem Vals.nil_iff {xs:List V} {us:List Value} (r:Vals xs us):us=[]↔xs=[]:=by
 cases r with
 |nil=>simp
 |cons _ _=>simp
theorem op_catT:OpR X (binaryOp .Add) (rCatT X.K):=by
 intro pins s σ H x y v u Q I rx ry h
 obtain ⟨a,b,xs,ys,rfl,rfl,ha,hb,hx,hz,q1,q2⟩:=h
 cases rx
 cases ry
 obtain ⟨its,r1,p1,_⟩:=I.tuple ha
 obtain ⟨its2,r2,p2,_⟩:=I.tuple hb
 refine HT.cat_tup p1 p2 (fun z=>hx (r1.nil_iff.mp z)) (fun z=>⟨.ref a,H,I,rfl,q1 (r2.nil_iff.mp z)⟩) (fun z=>?_) (by rw [<- r1.length,<- r2.length]; exact hz)
 refine ⟨.ref s.heap.objs.size,_,I.laid (t':=s.toks) (o:=.tup (xs++ys)) (fun b ob q=>Heap.get?_push_of_some _ q) (Nat.le_refl _) ?_,rfl,q2 (fun w=>z (r2.nil_iff.mpr w)) _ (I.hok.fresh (Nat.le_refl _))⟩
 exact ⟨by rw [List.length_append]; exact hz,_,r1.append r2,IsTup.new _ _⟩
end
end L2
namespace L2
open PySem PySem.Spec PyProof.Rows
def ixN (n:Nat) (i:Int):Option Nat:=if 0<=i then (if i < n then some i.toNat else none) else if -(n:Int)<=i then some (i+n).toNat else none
def atI {α:Type} (xs:List α) (i:Int):Option α:=(ixN xs.length i).bind fun j=>xs[j]?
theorem ixN_seq {n:Nat} {i:Int} {j:Nat} (h:ixN n i=some j):seqIndex? i n=some j/\j < n/\-(n:Int)<=i/\i < n:=by
 unfold ixN at h
 by_cases h0:0<=i
 ·rw [if_pos h0] at h
  by_cases h1:i < n
  ·rw [if_pos h1] at h
   have e:i.toNat=j:=Option.some.inj h
   exact ⟨by rw [seqIndex_of h0 h1,e],by omega,by omega,h1⟩
  ·rw [if_neg h1] at h; cases h
 ·rw [if_neg h0] at h
  by_cases h1:-(n:Int)<=i
  ·rw [if_pos h1] at h
   have e:(i+n).toNat=j:=Option.some.inj h
   exact ⟨by rw [seqIndex_neg (by omega) h1,e],by omega,h1,by omega⟩
  ·rw [if_neg h1] at h; cases h
theorem atI_get {α:Type} {xs:List α} {i:Int} {v:α} (h:atI xs i=some v):∃ j,seqIndex? i xs.length=some j/\xs[j]?=some v/\j < xs.length/\-(xs.length:Int)<=i/\i < xs.length:=by
 unfold atI at h
 cases e:ixN xs.length i with
 |none=>rw [e] at h; cases h
 |some j=>
  rw [e] at h
  obtain ⟨h1,h2,h3,h4⟩:=ixN_seq e
  exact ⟨j,h1,h,h2,h3,h4⟩
theorem zr {α:Type} {xs:List α} {j:Nat} {v:α} (h:xs[j]?=some v):atI xs (j:Int)=some v:=by
 have hj:j < xs.length:=(List.getElem?_eq_some_iff.mp h).1
 have e:ixN xs.length (j:Int)=some j:=by
  unfold ixN
  rw [if_pos (by omega),if_pos (by omega)]; simp
 unfold atI; rw [e]; exact h
def PlainIx (b:Expr):Prop:=∀ o i,subscripted b false o i=operate [o,i] (getItem o i)
def IxR (X:Cx) (r:R2):Prop:=
 ∀ (value slice:Expr) (pins:List (Addr × Obj)) (s:Shared) (σ:St) (H:Hp) (x y:V) (v u:Value) (Q:VK),Inv X pins σ H s->RelV x v->RelV y u->r x y H Q->
  subscripted slice false v u=operate [v,u] (getItem v u)->wpAny (model X.prog X.w) X.A (subscriptTail value slice v u) (EP X pins σ Q) X.xe s
def MtR (X:Cx) (id:String) (r:V->List V->Hp->VK->Prop):Prop:=
 ∀ (pins:List (Addr × Obj)) (s:Shared) (σ:St) (H:Hp) (x:V) (xs:List V) (v:Value) (us:List Value) (Q:VK),Inv X pins σ H s->RelV x v->Vals xs us->r x xs H Q->
  wpAny (model X.prog X.w) X.A (call (.builtin id) (v::us)) (EP X pins σ Q) X.xe s
section
variable {X:Cx} {a b:Expr} {ta tb:TE} {pos:Pos}
theorem zH {r:R2} (hr:IxR X r) (ha:PE X a ta) (hb:PE X b tb) (hs:PlainIx b):PE X (.Subscript a b pos) (tOp r ta tb):=by
 intro pins s σ H Q I h
 exact Subscript_ (binT ha hb I h fun v u s2 x y H2 I2 rx ry q=>hr a b pins s2 σ H2 x y v u Q I2 rx ry q (hs _ _))
def rIxL (K:PySem.W.Frag):R2:=fun x y H Q=>∃ p xs i v,x=.ref p/\y=.int i/\SqL K H p xs/\atI xs i=some v/\Q v H
def rIxT (K:PySem.W.Frag):R2:=fun x y H Q=>∃ p xs i v,x=.ref p/\y=.int i/\SqT K H p xs/\atI xs i=some v/\Q v H
theorem ix_list:IxR X (rIxL X.K):=by
 intro value slice pins s σ H x y v u Q I rx ry h hs
 obtain ⟨p,xs,i,z,rfl,rfl,hq,he,q⟩:=h
 cases rx
 obtain ⟨t,rfl⟩:=ry
 obtain ⟨its,r,pl,hz⟩:=I.list hq
 obtain ⟨j,h1,h2,h3,h4,h5⟩:=atI_get he
 obtain ⟨w,ew,rw'⟩:=r.get h2
 have hl:=r.length
 have hn:=line63
 have fin:EP X pins σ Q w s:=⟨z,H,I,rw',q⟩
 by_cases h0:0<=i
 ·have hj:i.toNat=j:=by
   rw [seqIndex_of h0 h5] at h1
   exact Option.some.inj h1
  exact item_listR pl.isList h0 (by omega) (by rw [hj]; simpa using ew) fin hs
 ·have hj:(i+(its.toArray.size:Int)).toNat=j:=by
   rw [seqIndex_neg (by omega) h4] at h1
   rw [List.size_toArray,<- hl]
   exact Option.some.inj h1
  exact subscriptTail_builtinR (x:=w) pl.isList.typeIs slot_list_getitem.lookup
   (wpAny_getItem_list_neg (Q:=fun r s'=>r=w/\EP X pins σ Q r s') pl.isList (by omega) (by rw [List.size_toArray]<;>omega) (by omega) (by rw [hj]; simpa using ew) ⟨rfl,fin⟩) hs
theorem ix_tup:IxR X (rIxT X.K):=by
 intro value slice pins s σ H x y v u Q I rx ry h hs
 obtain ⟨p,xs,i,z,rfl,rfl,hq,he,q⟩:=h
 cases rx
 obtain ⟨t,rfl⟩:=ry
 obtain ⟨its,r,pl,hz⟩:=I.tuple hq
 obtain ⟨j,h1,h2,h3,h4,h5⟩:=atI_get he
 obtain ⟨w,ew,rw'⟩:=r.get h2
 have hl:=r.length
 have hn:=line63
 have fin:EP X pins σ Q w s:=⟨z,H,I,rw',q⟩
 exact subscriptTail_builtinR (x:=w) pl.typeIs slot_tuple_getitem.lookup
  (getItem_tuple (j:=j) (Q:=fun r s'=>r=w/\EP X pins σ Q r s') pl (by omega) (by omega) (by rw [List.size_toArray,<- hl]; exact h1) (by simpa using ew) ⟨rfl,fin⟩) hs
theorem mapSeq_set (its:List Value) (n j:Nat) (u:Value):Obj.mapSeq (·.setIfInBounds j u) {cls:=.type "list",data:=.seq its.toArray n}={cls:=.type "list",data:=.seq (its.set j u).toArray n}:=by
 simp [Obj.mapSeq]
theorem Inv.lst {pins:List (Addr × Obj)} {σ:St} {H:Hp} {s:Shared} {p:Addr} {xs:List V} (I:Inv X pins σ H s) (h:H p=some (.lst xs)) :
  ∃ (its:List Value) (n:Nat),Vals xs its/\s.heap.get? p=some {cls:=.type "list",data:=.seq its.toArray n}/\xs.length<=sizeLine:=by
 obtain ⟨z,its,n,r,e⟩:=I.hok p _ h
 exact ⟨its,n,r,e,z⟩
theorem Inv.lstUpd {pins:List (Addr × Obj)} {σ:St} {H:Hp} {s:Shared} {p:Addr} {xs ys:List V} {its its':List Value} {n n':Nat} {f:Obj->Obj} (I:Inv X pins σ H s) (h:H p=some (.lst xs))
  (ho:s.heap.get? p=some {cls:=.type "list",data:=.seq its.toArray n}) (hf:f {cls:=.type "list",data:=.seq its.toArray n}={cls:=.type "list",data:=.seq its'.toArray n'}) (r:Vals ys its') (hz:ys.length<=sizeLine) (t:Nat) :
  Inv X pins σ (upd H p (.lst ys)) {s with heap:=s.heap.update p f,toks:=t}:=by
 have e:(s.heap.update p f).get? p=some {cls:=.type "list",data:=.seq its'.toArray n'}:=by
  rw [Heap.get?_update_self f ho (by rw [hf]<;>rfl),hf]
 refine I.write (x:=p) (e:=p) (by rw [h]; trivial) (.inl rfl) (fun b u hb q=>(Heap.get?_update_other _ _ (Ne.symm hb)).trans q) ⟨_,e⟩ ?_
 exact ⟨hz,its',n',r,e⟩
def rSetL:V->V->V->Hp->(Hp->Prop)->Prop:=fun o i v H Q=>∃ p xs k j,o=.ref p/\i=.int k/\H p=some (.lst xs)/\ixN xs.length k=some j/\Q (upd H p (.lst (xs.set j v)))
theorem j2:PSet X rSetL:=by
 intro pins s σ H o i v ov iv u Q I ro ri rv h
 obtain ⟨p,xs,k,j,rfl,rfl,hp,hj,q⟩:=h
 cases ro
 obtain ⟨t,rfl⟩:=ri
 obtain ⟨its,n,r,ho,hz⟩:=I.lst hp
 obtain ⟨h1,h2,h3,h4⟩:=ixN_seq hj
 have hl:=r.length
 have hn:=line63
 have I':Inv X pins σ (upd H p (.lst (xs.set j v))) {s with heap:=s.heap.update p (Obj.mapSeq (·.setIfInBounds j u))}:=
  I.lstUpd hp ho (mapSeq_set its n j u) (r.set rv j) (by rw [List.length_set]; exact hz) s.toks
 by_cases h0:0<=k
 ·have hk:k.toNat=j:=by
   rw [seqIndex_of h0 h4] at h1
   exact Option.some.inj h1
  exact PySem.W.ki_setAt ho h0 (by omega) (by rw [List.size_toArray,<- hl]; exact h4) (by rw [hk]; exact ⟨_,I',q⟩)
 ·have hk:(k+(its.toArray.size:Int)).toNat=j:=by
   rw [seqIndex_neg (by omega) h3] at h1
   rw [List.size_toArray,<- hl]
   exact Option.some.inj h1
  exact PySem.W.ki_setBack ho (by omega) (by rw [List.size_toArray,<- hl]; exact h3) (by omega) (by rw [hk]; exact ⟨_,I',q⟩)
theorem slice_bounds (lo hi:Option Int) (n:Nat):(sliceBounds lo hi none n).1=((HT.sIx n 0 lo:Nat):Int)/\(sliceBounds lo hi none n).2.1=((HT.sIx n n hi:Nat):Int)/\(sliceBounds lo hi none n).2.2=1:=by
 refine ⟨?_,?_,rfl⟩
 ·cases lo with
  |none=>simp [sliceBounds,HT.sIx]
  |some i=>
   simp only [sliceBounds,HT.sIx,Option.getD_none,show (1:Int) > 0 by decide,if_true]
   by_cases h:i < 0
   ·simp only [h,if_true]<;>omega
   ·simp only [h,if_false]<;>omega
 ·cases hi with
  |none=>simp [sliceBounds,HT.sIx]
  |some i=>
   simp only [sliceBounds,HT.sIx,Option.getD_none,show (1:Int) > 0 by decide,if_true]
   by_cases h:i < 0
   ·simp only [h,if_true]<;>omega
   ·simp only [h,if_false]<;>omega
theorem slicePick_cut (its:List Value) (lo hi:Option Int):slicePick its.toArray lo hi none=((its.drop (HT.sIx its.length 0 lo)).take (HT.sIx its.length its.length hi - HT.sIx its.length 0 lo)).toArray:=by
 obtain ⟨h1,h2,h3⟩:=slice_bounds lo hi its.toArray.size
 unfold slicePick
 rw [h1,h2,h3]
 simp only [sliceRange_one,pick_run,List.size_toArray]<;>rfl
def rSlL (K:PySem.W.Frag):V->Option Int->Option Int->Hp->VK->Prop:=fun x lo hi H Q=>∃ a xs,x=.ref a/\SqL K H a xs/\∀ p,H p=none->Q (.ref p) (upd H p (.lst (cutV xs lo hi)))
theorem sl_list:SlR X (rSlL X.K):=by
 intro pins s σ H x v vl vu lo hi sl Q I rx hs pl pu h
 obtain ⟨a,xs,rfl,hx,q⟩:=h
 cases rx
 obtain ⟨its,r,ht,hz⟩:=I.list hx
 have hlen:=r.length
 refine ⟨"list",_,slot_list_getitem.lookup,ht.isList.typeIs,?_⟩
 refine wpAny_getItem_list_slice ht.isList hs pl pu .none (by simp) ?_ (by rw [List.size_toArray]<;>omega)
 rw [slicePick_cut,<- hlen]
 refine ⟨.ref s.heap.objs.size,_,I.laid (t':=s.toks) (o:=.lst (cutV xs lo hi)) (fun b ob q=>Heap.get?_push_of_some _ q) (Nat.le_refl _) ?_,rfl,q _ (I.hok.fresh (Nat.le_refl _))⟩
 exact ⟨Nat.le_trans (JE xs lo hi) hz,_,0,(r.drop (HT.sIx xs.length 0 lo)).take (HT.sIx xs.length xs.length hi - HT.sIx xs.length 0 lo),Heap.get?_push_size _ rfl⟩
def Yf:V->Bool
 |.non=>true
 |.bl _=>true
 |.int _=>true
 |.str _=>true
 |_=>false
def eqV:V->V->Bool
 |.non,.non=>true
 |.bl a,.bl b=>a == b
 |.bl a,.int b=>(if a then 1 else 0) == b
 |.int a,.bl b=>a == (if b then 1 else 0)
 |.int a,.int b=>a == b
 |.str a,.str b=>a == b
 |_,_=>false
theorem eqAt_V {A:Around} {s:Shared} {y x:V} {u v:Value} (ry:RelV y u) (rx:RelV x v) (fy:Yf y=true) (fx:Yf x=true):SeqAt.EqAt A s u v (eqV y x):=by
 cases y with
 |non=>
  cases ry
  cases x with
  |non=>cases rx; exact SeqAt.EqAt.same _
  |bl b=>cases rx; exact SeqAt.EqAt.none_bool b
  |int b=>obtain ⟨t,rfl⟩:=rx; exact SeqAt.EqAt.none_int b t
  |str b=>obtain ⟨t,rfl⟩:=rx; exact SeqAt.EqAt.none_str b t
  |_=>exact absurd (show false=true from fx) Bool.false_ne_true
 |bl a=>
  cases ry
  cases x with
  |non=>cases rx; exact SeqAt.EqAt.bool_none a
  |bl b=>cases rx; exact SeqAt.EqAt.bool_bool a b
  |int b=>obtain ⟨t,rfl⟩:=rx; exact SeqAt.EqAt.bool_int a b t
  |str b=>obtain ⟨t,rfl⟩:=rx; exact SeqAt.EqAt.bool_str a b t
  |_=>exact absurd (show false=true from fx) Bool.false_ne_true
 |int a=>
  obtain ⟨t',rfl⟩:=ry
  cases x with
  |non=>cases rx; exact SeqAt.EqAt.int_none a t'
  |bl b=>cases rx; exact SeqAt.EqAt.int_bool a t' b
  |int b=>obtain ⟨t,rfl⟩:=rx; exact SeqAt.EqAt.int_int a t' b t
  |str b=>obtain ⟨t,rfl⟩:=rx; exact SeqAt.EqAt.int_str a t' b t
  |_=>exact absurd (show false=true from fx) Bool.false_ne_true
 |str a=>
  obtain ⟨t',rfl⟩:=ry
  cases x with
  |non=>cases rx; exact SeqAt.EqAt.str_none a t'
  |bl b=>cases rx; exact SeqAt.EqAt.str_bool a t' b
  |int b=>obtain ⟨t,rfl⟩:=rx; exact SeqAt.EqAt.str_int a t' b t
  |str b=>obtain ⟨t,rfl⟩:=rx; exact SeqAt.EqAt.str_str a t' b t
  |_=>exact absurd (show false=true from fx) Bool.false_ne_true
 |_=>exact absurd (show false=true from fy) Bool.false_ne_true
def eqU (x:V) (u:Value):Bool:=match u with
 |.none=>eqV .non x
 |.bool b=>eqV (.bl b) x
 |.int i _=>eqV (.int i) x
 |.str z _=>eqV (.str z) x
 |_=>false
theorem eqU_of {x y:V} {u:Value} (r:RelV y u) (f:Yf y=true):eqU x u=eqV y x:=by
 cases y with
 |non=>cases r; rfl
 |bl b=>cases r; rfl
 |int i=>obtain ⟨t,rfl⟩:=r; rfl
 |str z=>obtain ⟨t,rfl⟩:=r; rfl
 |_=>exact absurd (show false=true from f) Bool.false_ne_true
theorem any_eqU {x:V}:∀ {xs:List V} {us:List Value},Vals xs us->xs.all Yf=true->us.any (eqU x)=xs.any fun y=>eqV y x
 |_,_,.nil,_=>rfl
 |y::xs,u::us,.cons r t,f=>by
  rw [List.all_cons,Bool.and_eq_true] at f
  rw [List.any_cons,List.any_cons,eqU_of r f.1,any_eqU t f.2]
theorem J8 {A:Around} {s:Shared} {x:V} {v:Value} (rx:RelV x v) (fx:Yf x=true):∀ {xs:List V} {us:List Value},Vals xs us->xs.all Yf=true->∀ u∈us,SeqAt.EqAt A s u v (eqU x u)
 |_,_,.nil,_=>fun u hu=>by cases hu
 |y::xs,u::us,.cons r t,f=>fun u' hu=>by
  rw [List.all_cons,Bool.and_eq_true] at f
  rcases List.mem_cons.mp hu with rfl|hu
  ·rw [eqU_of r f.1]; exact eqAt_V r rx f.1 fx
  ·exact J8 rx fx t f.2 u' hu
def inV (x:V) (xs:List V):Bool:=xs.any fun y=>eqV y x
def rIn (K:PySem.W.Frag) (neg:Bool):R2:=fun x y H Q=>∃ p xs,y=.ref p/\(SqL K H p xs\/SqT K H p xs)/\Yf x=true/\xs.all Yf=true/\Q (.bl (if neg then !inV x xs else inV x xs)) H
theorem Z4:OpR X (compareOp .In) (rIn X.K false):=by
 intro pins s σ H x y v u Q I rx ry h
 obtain ⟨p,xs,rfl,hq,fx,fs,q⟩:=h
 cases ry
 rcases hq with hq|hq
 ·obtain ⟨its,r,pl,hz⟩:=I.list hq
  refine SeqAt.in_listAt (eqU x) pl.isList (fun w hw=>J8 rx fx r fs w (by simpa using hw)) ⟨.bl _,H,I,rfl,?_⟩
  rw [show its.toArray.any (eqU x)=its.any (eqU x) by simp,any_eqU r fs]
  exact q
 ·obtain ⟨its,r,pl,hz⟩:=I.tuple hq
  refine SeqAt.in_tupleAt (eqU x) pl (fun w hw=>J8 rx fx r fs w (by simpa using hw)) ⟨.bl _,H,I,rfl,?_⟩
  rw [show its.toArray.any (eqU x)=its.any (eqU x) by simp,any_eqU r fs]
  exact q
theorem jP:jJ X (.type "list") (fun xs H Q=>∃ p ys,xs=[.ref p]/\(SqL X.K H p ys\/SqT X.K H p ys)/\∀ l,H l=none->Q (.ref l) (upd H l (.lst ys))):=by
 intro pins s σ H xs us Q I r h
 obtain ⟨p,ys,rfl,hq,q⟩:=h
 obtain ⟨u,rfl,rx⟩:=Zi r
 cases rx
 have fin:∀ (its:List Value),Vals ys its->ys.length<=sizeLine->∀ (h':Heap) (c':Nat),(∀ b o',s.heap.get? b=some o'->h'.get? b=some o')->
   h'.get? s.heap.objs.size=some {cls:=.type "list",dict:=none,data:=.seq its.toArray c',slots:=#[]}->EP X pins σ Q (.ref s.heap.objs.size) {s with heap:=h'}:=fun its r' hz h' c' kp e=>
  ⟨.ref s.heap.objs.size,_,I.laid (t':=s.toks) kp (Nat.le_refl _) (show zp X.prog X.w _ h' _ (.lst ys) from ⟨hz,its,c',r',e⟩),rfl,q _ (I.hok.fresh (Nat.le_refl _))⟩
 rcases hq with hq|hq
 ·obtain ⟨its,r',pl,hz⟩:=I.list hq
  have hlen:=r'.length
  obtain ⟨o,ho,hc,n,hd⟩:=pl.isList
  exact call_list_seq p (.inl rfl) ho hc hd (fun h' c' kp e=>fin its r' hz h' c' kp e) (by simp only [List.size_toArray]<;>omega)
 ·obtain ⟨its,r',pl,hz⟩:=I.tuple hq
  have hlen:=r'.length
  obtain ⟨o,ho,hc,n,hd⟩:=pl
  exact call_list_seq p (.inr rfl) ho hc hd (fun h' c' kp e=>fin its r' hz h' c' kp e) (by simp only [List.size_toArray]<;>omega)
theorem call_tuple_of:jJ X (.type "tuple") (fun xs H Q=>∃ p ys,xs=[.ref p]/\((SqL X.K H p ys/\∀ l,H l=none->Q (.ref l) (upd H l (.tup ys)))\/(SqT X.K H p ys/\Q (.ref p) H))):=by
 intro pins s σ H xs us Q I r h
 obtain ⟨p,ys,rfl,h⟩:=h
 obtain ⟨u,rfl,rx⟩:=Zi r
 cases rx
 rcases h with ⟨hq,q⟩|⟨hq,q⟩
 ·obtain ⟨its,r',pl,hz⟩:=I.list hq
  have hlen:=r'.length
  refine call_tuple_list pl.isList (fun h' kp=>?_) (by simp only [List.size_toArray]<;>omega)
  have I1:Inv X pins σ H {s with heap:=h'}:=I.kept (t':=s.toks) kp
  have I2:Inv X pins σ (upd H h'.objs.size (.tup ys)) {s with heap:=h'.push {cls:=.type "tuple",data:=.seq its.toArray}}:=
   I1.laid (t':=s.toks) (fun b o e=>Heap.get?_push_of_some _ e) (Nat.le_refl _) (show zp X.prog X.w _ _ _ (.tup ys) from ⟨hz,its,r',IsTup.new _ _⟩)
  exact ⟨.ref h'.objs.size,_,I2,rfl,q _ (I1.hok.fresh (Nat.le_refl _))⟩
 ·obtain ⟨its,r',pl,hz⟩:=I.tuple hq
  exact call_tuple_same pl ⟨.ref p,H,I,rfl,q⟩
def tyV (K:PySem.W.Frag) (T:String) (x:V) (H:Hp):Prop:=match x with
 |.str _=>T="str"
 |.int _=>T="int"
 |.ref p=>(T="list"/\∃ xs,SqL K H p xs)\/(T="tuple"/\∃ o,K.lookup p=some o/\o.cls=.type "tuple"/\o.dict=none)\/
   (T="dict"/\((∃ kvs,H p=some (.dK kvs))\/∃ kvs,H p=some (.dT kvs)))\/(T="set"/\∃ S n,H p=some (.set S n))
 |_=>False
theorem tyV_is {pins:List (Addr × Obj)} {σ:St} {H:Hp} {s:Shared} {T:String} {x:V} {v:Value} (I:Inv X pins σ H s) (r:RelV x v) (ty:tyV X.K T x H) :
  s.TypeIs v T/\∀ a,v=.ref a->∃ ob,s.heap.get? a=some ob/\ob.dict=none:=by
 cases x with
 |str z=>
  obtain ⟨t,rfl⟩:=r
  cases (show T="str" from ty)
  exact ⟨typeIs_str s z t,fun _ e=>nomatch e⟩
 |int i=>
  obtain ⟨t,rfl⟩:=r
  cases (show T="int" from ty)
  exact ⟨typeIs_int s i t,fun _ e=>nomatch e⟩
 |ref p=>
  cases r
  rcases ty with ⟨rfl,xs,hq⟩|⟨rfl,o,hk,hc,hd⟩|⟨rfl,hk⟩|⟨rfl,S,n,hk⟩
  ·obtain ⟨its,_,pl,_⟩:=I.list hq
   refine ⟨pl.isList.typeIs,fun a e=>?_⟩
   cases e
   obtain ⟨o,n,e,c,hd,_⟩:=pl
   exact ⟨o,e,hd⟩
  ·refine ⟨⟨o,I.kIn p o hk,hc⟩,fun a e=>?_⟩
   cases e
   exact ⟨o,I.kIn _ o hk,hd⟩
  ·have z:∃ o,s.heap.get? p=some o/\o.ExactDict:=by
    rcases hk with ⟨kvs,hk⟩|⟨kvs,hk⟩
    ·obtain ⟨_,_,_,_,o,_,_,e,ex,_⟩:=I.hok p _ hk
     exact ⟨o,e,ex⟩
    ·obtain ⟨_,_,_,_,o,_,_,e,ex,_⟩:=I.hok p _ hk
     exact ⟨o,e,ex⟩
   obtain ⟨o,e,ex⟩:=z
   refine ⟨⟨o,e,ex.1⟩,fun a e2=>?_⟩
   cases e2
   exact ⟨o,e,ex.2.1⟩
  ·obtain ⟨o,_,_,_,e,ex,_⟩:=I.hok p _ hk
   refine ⟨⟨o,e,ex.1⟩,fun a e2=>?_⟩
   cases e2
   exact ⟨o,e,ex.2.1⟩
 |_=>exact False.elim ty
def tBM0 (K:PySem.W.Frag) (T:String) (r:V->List V->Hp->VK->Prop) (to:TE):TE:=fun σ H Q=>to σ H fun x H1=>tyV K T x H1/\r x [] H1 Q
def tBM (K:PySem.W.Frag) (T:String) (r:V->List V->Hp->VK->Prop) (to:TE) (t:TA):TE:=fun σ H Q=>to σ H fun x H1=>tyV K T x H1/\t σ H1 fun xs H2=>r x xs H2 Q
variable {o e:Expr} {es:List Expr} {to:TE} {t:TA} {name:Str} {apos cpos:Pos} {T id:String} {r:V->List V->Hp->VK->Prop}
theorem pe_bm0 (pa:PlainAttrs T) (slot:Slot T name id) (hty:typeOf (.builtin id)=pure (.type "method_descriptor")) (hm:MtR X id r) (ho:PE X o to)
  (hbase:attributeBase o name X.env (eval o X.env)=eval o X.env:=by rfl) (hline:(apos.endLine == cpos.line)=true:=by rfl):PE X (.Call (.Attribute o name apos) [] [] cpos) (tBM0 X.K T r to):=by
 intro pins s σ H Q I h
 refine wpAny_Call_method0_late hbase hline (thn (ho pins s σ H _ I h) fun v s1 zz=>?_)
 obtain ⟨x,H1,I1,r1,ty,q1⟩:=zz
 obtain ⟨h1,h2⟩:=tyV_is I1 r1 ty
 exact ⟨T,id,pa,slot,hty,h1,h2,Calls.callWith_builtin rfl (PySem.evalArgs_none (hm pins s1 σ H1 x [] v [] Q I1 r1 .nil q1))⟩
theorem YE (pa:PlainAttrs T) (slot:Slot T name id) (hty:typeOf (.builtin id)=pure (.type "method_descriptor")) (hm:MtR X id r) (ho:PE X o to) (ha:PA X (e::es) t)
  (hbase:attributeBase o name X.env (eval o X.env)=eval o X.env:=by rfl)
  (hfew:((backTo cpos (starEach (e::es) X.env)).all (fun x=>!x.1) && (backToKw cpos (keywordEach [] X.env)).all (fun x=>x.1.isSome)
   && decide ((e::es).length+([]:List Keyword).length+(if ([]:List Keyword).isEmpty then 0 else 1) < 30))=true:=by rfl)
  (hline:(apos.endLine == cpos.line)=true:=by rfl) (hs:starEach (e::es) X.env=(false,eval e X.env)::starEach es X.env:=by rfl) (hplain:(backTo cpos (starEach es X.env)).any (·.1)=false:=by rfl) :
  PE X (.Call (.Attribute o name apos) (e::es) [] cpos) (tBM X.K T r to t):=by
 intro pins s σ H Q I h
 refine wpAny_Call_method_late hbase hfew hline rfl (thn (ho pins s σ H _ I h) fun v s1 zz=>?_)
 obtain ⟨x,H1,I1,r1,ty,q1⟩:=zz
 obtain ⟨h1,h2⟩:=tyV_is I1 r1 ty
 refine ⟨T,id,pa,slot,hty,h1,h2,?_⟩
 have hA:=ha cpos pins s1 σ H1 _ I1 q1
 rw [hs] at hA ⊢
 refine Calls.callWith_builtin (by show (false || (backTo cpos (starEach es X.env)).any (·.1))=false; rw [hplain]<;>rfl) (Calls.evalArgs_plain ?_)
 exact thn hA fun us s2 ⟨vs,H2,I2,r2,q2⟩=>hm pins s2 σ H2 x vs v us Q I2 r1 r2 q2
end
end L2
namespace L2
open PySem PySem.Spec PyProof.Rows
def MtM (X:Cx) (id:String) (r:V->List V->Hp->VK->Prop):Prop:=
 ∀ (pins:List (Addr × Obj)) (s:Shared) (σ:St) (H:Hp) (x:V) (xs:List V) (v:Value) (us:List Value) (Q:VK),Inv X pins σ H s->RelV x v->Vals xs us->r x xs H Q->
  wpAny (model X.prog X.w) X.A (call (.builtin id) (v::us)) (EP X pins σ Q) X.xe s
theorem Vals.one:∀ {x:V} {us:List Value},Vals [x] us->∃ u,us=[u]/\RelV x u
 |_,_,.cons r .nil=>⟨_,rfl,r⟩
theorem Vals.eraseIdx:∀ {xs:List V} {us:List Value} (i:Nat),Vals xs us->Vals (xs.eraseIdx i) (us.eraseIdx i)
 |_,_,_,.nil=>.nil
 |_,_,0,.cons _ t=>t
 |_,_,i+1,.cons r t=>.cons r (Vals.eraseIdx i t)
theorem len_erase {α:Type}:∀ (l:List α) (i:Nat),(l.eraseIdx i).length<=l.length
 |[],_=>Nat.le_refl _
 |_::_,0=>Nat.le_succ _
 |_::r,i+1=>Nat.succ_le_succ (len_erase r i)
section
variable {X:Cx} {pins:List (Addr × Obj)} {σ:St} {H:Hp} {s:Shared} {l b:Addr} {xs ys zs:List V}
theorem Inv.lset {its its':List Value} {n:Nat} {f:Array Value->Array Value} {t':Nat} (I:Inv X pins σ H s) (hH:H l=some (.lst xs))
  (e:s.heap.get? l=some {cls:=.type "list",data:=.seq its.toArray n}) (hf:f its.toArray=its'.toArray) (hv:Vals ys its') (hz:ys.length<=sizeLine) :
  Inv X pins σ (upd H l (.lst ys)) {s with heap:=s.heap.update l (Obj.mapSeq f),toks:=t'}:=by
 have q:=PySem.IsL.update e f
 rw [hf] at q
 refine I.write (x:=l) (e:=l) (by rw [hH]; exact trivial) (.inl rfl) (fun b' u hb hu=>(Heap.get?_update_other s.heap (Obj.mapSeq f) (Ne.symm hb)).trans hu) ⟨_,q⟩ ?_
 exact ⟨hz,its',_,hv,q⟩
theorem Inv.lnew {its:List Value} {t':Nat} (I:Inv X pins σ H s) (hv:Vals ys its) (hz:ys.length<=sizeLine) :
  Inv X pins σ (upd H s.heap.objs.size (.lst ys)) {s with heap:=s.heap.push {cls:=.type "list",data:=.seq its.toArray},toks:=t'}:=
 I.laid (fun _ _ q=>Heap.get?_push_of_some _ q) (Nat.le_refl _) ⟨hz,its,0,hv,Heap.get?_push_size _ rfl⟩
theorem Inv.fresh (I:Inv X pins σ H s):H s.heap.objs.size=none:=I.hok.fresh (Nat.le_refl _)
theorem Inv.lstM (I:Inv X pins σ H s) (hH:H l=some (.lst xs)):xs.length<=sizeLine/\∃ (its:List Value) (n:Nat),Vals xs its/\xs.length=its.length/\s.heap.get? l=some {cls:=.type "list",data:=.seq its.toArray n}:=by
 obtain ⟨z,its,n,r,e⟩:=I.hok l _ hH
 exact ⟨z,its,n,r,r.length,e⟩
theorem notLongL {n:Nat} (h:n<=sizeLine):Builtin.List.listTooLong n=false:=by
 unfold Builtin.List.listTooLong
 exact decide_eq_false (by omega)
end
section
variable {X:Cx}
def rAppend:V->List V->Hp->VK->Prop:=fun x vs H Q=>∃ l xs y,x=.ref l/\vs=[y]/\H l=some (.lst xs)/\xs.length < sizeLine/\Q .non (upd H l (.lst (xs++[y])))
theorem yn:MtM X "list.append" rAppend:=by
 intro pins s σ H x vs v us Q I rx rv h
 obtain ⟨l,xs,y,rfl,rfl,hH,hz,q⟩:=h
 cases rx
 obtain ⟨u,rfl,ru⟩:=rv.one
 obtain ⟨z,its,n,r,hl,e⟩:=I.lstM hH
 refine call_meets F.slot_list_append ⟨_,e,rfl⟩ F.entry_list_append (F.args_list_append_2 _ _) (PySem.list_append l its.toArray n u (by rw [List.size_toArray]; omega)) ⟨e,?_⟩
 refine ⟨.non,_,I.lset (its':=its++[u]) hH e (by simp) (r.append (.cons ru .nil)) ?_,rfl,q⟩
 rw [List.length_append,List.length_singleton]
 omega
def rExtend:V->List V->Hp->VK->Prop:=fun x vs H Q=>∃ l b xs zs,x=.ref l/\vs=[.ref b]/\H l=some (.lst xs)/\H b=some (.lst zs)/\xs.length+zs.length<=sizeLine/\Q .non (upd H l (.lst (xs++zs)))
theorem mt_extend:MtM X "list.extend" rExtend:=by
 intro pins s σ H x vs v us Q I rx rv h
 obtain ⟨l,b,xs,zs,rfl,rfl,hH,hB,hz,q⟩:=h
 cases rx
 obtain ⟨u,rfl,ru⟩:=rv.one
 cases ru
 obtain ⟨z,its,n,r,hl,e⟩:=I.lstM hH
 obtain ⟨z2,its2,n2,r2,hl2,e2⟩:=I.lstM hB
 have hsz:its.toArray.size+its2.toArray.size<=sizeLine:=by rw [List.size_toArray,List.size_toArray]; omega
 have hlong:¬ (!its.toArray.isEmpty && Builtin.List.listTooLong (its.toArray.size+its2.toArray.size))=true:=by
  rw [notLongL hsz,Bool.and_false]
  exact Bool.false_ne_true
 refine call_meets F.slot_list_extend ⟨_,e,rfl⟩ F.entry_list_extend (F.args_list_extend_2 _ _)
  (AutoSeq1.list_extend_list_list_0 l its.toArray n b its2.toArray n2 hlong (by rw [List.size_toArray]; omega) (by omega)) ⟨e,e2,?_⟩
 refine ⟨.non,_,I.lset (its':=its++its2) hH e (by simp) (r.append r2) ?_,rfl,q⟩
 rw [List.length_append]
 omega
def rPopAt:V->List V->Hp->VK->Prop:=fun x vs H Q=>∃ l xs i k y,x=.ref l/\vs=[.int i]/\H l=some (.lst xs)/\-(2 ^ 63)<=i/\i < 2 ^ 63/\seqIndex? i xs.length=some k/\xs[k]?=some y/\Q y (upd H l (.lst (xs.eraseIdx k)))
theorem mt_popAt:MtM X "list.pop" rPopAt:=by
 intro pins s σ H x vs v us Q I rx rv h
 obtain ⟨l,xs,i,k,y,rfl,rfl,hH,h1,h2,hk,hy,q⟩:=h
 cases rx
 obtain ⟨u,rfl,ru⟩:=rv.one
 obtain ⟨t,rfl⟩:=ru
 obtain ⟨z,its,n,r,hl,e⟩:=I.lstM hH
 obtain ⟨w,hw,rw'⟩:=r.get hy
 refine call_meets F.slot_list_pop ⟨_,e,rfl⟩ F.entry_list_pop (F.args_list_pop_2 _ _)
  (MeetsSeq.list_pop_at l its.toArray n i t k w (fitsIndex_both h1 h2) (by rw [List.size_toArray,<- hl]; exact hk) (by rw [<- Array.getElem?_toList]; exact hw) (by rw [List.size_toArray]; omega)) ⟨e,?_⟩
 refine ⟨y,_,I.lset (its':=its.eraseIdx k) hH e ?_ (r.eraseIdx k) ?_,rw',q⟩
 ·show its.toArray.eraseIdxIfInBounds k=(its.eraseIdx k).toArray
  rw [List.eraseIdxIfInBounds_toArray]
 ·have:=len_erase xs k
  omega
def rCat:R2:=fun x y H Q=>∃ l b xs zs,x=.ref l/\y=.ref b/\H l=some (.lst xs)/\H b=some (.lst zs)/\xs.length+zs.length<=sizeLine/\∀ p,H p=none->Q (.ref p) (upd H p (.lst (xs++zs)))
theorem op_cat:OpR X (binaryOp .Add) rCat:=by
 intro pins s σ H x y v u Q I rx ry h
 obtain ⟨l,b,xs,zs,rfl,rfl,hH,hB,hz,q⟩:=h
 cases rx
 cases ry
 obtain ⟨z,its,n,r,hl,e⟩:=I.lstM hH
 obtain ⟨z2,its2,n2,r2,hl2,e2⟩:=I.lstM hB
 refine PySem.P.add_list e e2 ?_ (by rw [List.size_toArray,List.size_toArray]; omega)
 have ea:its.toArray++its2.toArray=(its++its2).toArray:=by simp
 rw [ea]
 exact ⟨.ref _,_,I.lnew (t':=s.toks) (r.append r2) (by rw [List.length_append]; omega),rfl,q _ I.fresh⟩
end
section
variable {prog:Program} {w:World} {A:Around} {E:Value->Shared->Prop} {s:Shared}
end
section
variable {X:Cx}
end
end L2
namespace Att
open PySem PySem.W PySem.Calls PyProof.Rows
theorem ints_of_wellAll {P:Params} {h:Heap}:∀ (ns:List Int) (vs:List Value),WellAll P h vs (ns.map WData.int)->IntsAre vs ns:=by
 intro ns
 induction ns with
 |nil=>
  intro vs w
  rw [List.map_nil] at w
  cases w
  exact .nil
 |cons n ns ih=>
  intro vs w
  rw [List.map_cons] at w
  cases w with
  |cons a b=>
   cases a
   exact .cons _ _ (ih _ b)
theorem script_of {l:OpenLaw} {n:Nat} (hn:l.most=some n) {P:Params} {h:Heap} {args:List WData} {vals:List Value}
  (hpre:l.row.toRowW.claim.pre args=true) (hwl:WellAll P h vals args) :
  ∃ a vs ns,vals=[Value.ref a]/\args=[WData.list (ns.map WData.int)]/\h.get? a=some {cls:=.type "list",data:=.seq vs.toArray}/\IntsAre vs ns/\ns.length<=n:=by
 have hsh:WShape.hasAll [] args [.list .int]=true:=(pre_splitW hpre).1
 have hc:l.pre.holds [] {args:=args}=true:=(pre_splitW hpre).2
 obtain ⟨d,r,rfl,h1,h2⟩:=hasAllW_cons hsh
 obtain rfl:=hasAllW_nil h2
 obtain ⟨xs,rfl,h3⟩:=hasW_list h1
 obtain ⟨ns,rfl⟩:=items_int h3
 have hlen:ns.length<=n:=by
  unfold OpenLaw.pre at hc
  have h4:(WTm.not (.lt (.lit (.int (n:Int))) (.len (.arg 0)))).holds [] {args:=[.list (ns.map .int)]}=true:=by
   have h4:=(holds_andW hc).1
   rw [hn] at h4
   exact h4
  have h5:=condW_of h4 (w_not (w_lt w_lit (w_len_list (w_arg rfl))))
  rw [List.length_map] at h5
  refine Nat.le_of_not_lt fun q=>?_
  have q':(n:Int) < ((ns.length:Nat):Int):=by omega
  first
   | (rw [decide_eq_true q'] at h5; exact absurd h5 (by decide))
   | (simp at h5; omega)
 cases hwl with
 |cons w1 w2=>
  cases w2
  cases w1 with
  |list ho hall=>exact ⟨_,_,ns,rfl,rfl,ho,ints_of_wellAll ns _ hall,hlen⟩
theorem post_true (l:OpenLaw) (args:List WData):l.row.toRowW.claim.post args (.bool true) args=true:=
 postW_of (r:=l.row.toRowW) (X:=(true == true))
  (show WShape.has [] (.bool true) .bool=true by first|rfl|decide|simp [WShape.has,WShape.arms,WShape.armsAll])
  (show (WTm.eq .res (.lit (.bool true))).value [] {args:=args,res:=some (.bool true),after:=args}=some (.bool (true == true)) from w_eq_bool (w_res rfl) w_lit) rfl
section
variable {prog:Program} {w:World} {A:Around} {E:Value->Shared->Prop} {s:Shared} {K:Frag}
end
end Att
namespace L2
open PySem PySem.Spec PyProof.Rows
theorem vals_ints:∀ {vs:List Value} {ns:List Int},IntsAre vs ns->Vals (ns.map V.int) vs
 |_,_,.nil=>.nil
 |_,_,.cons n t h=>.cons ⟨t,rfl⟩ (vals_ints h)
def Only (H:Hp):Prop:=∀ b,H b=none\/∃ o xs,H b=some (.frz o (.lst xs))
theorem law_call {P:Program} {w:World} {K:PySem.W.Frag} {mg mb:Str->Option Value} {CX:CXT} {k:Nat} {fa a:Addr} {fd:FuncData} {x:Str} {sp:Sp} {s₁:Shared} {vs:List Value} {ns:List Int}
  (KX:K.In s₁.heap) (hns:s₁.heap.Ns mainGlobals mg) (hb:s₁.heap.Ns builtinsNs mb) (hbb:∀ x:Str,x≠"__name__"->mb x=bootBuiltins x) (hlim:s₁.heap.NoLimit) (hg:s₁.gens=#[])
  (ha:s₁.heap.get? a=some {cls:=.type "list",data:=.seq vs.toArray}) (hi:IntsAre vs ns) (hl:ns.length<=sizeLine) (hr:Room k callerA)
  (F:∀ base:Heap,K.In base->base.Ns mainGlobals mg->FnOk P w K mg base CX k fa fd [x] sp) (hbind:∀ (s:Shared) (u:Value),BindsTo s fd ⟨[u],[]⟩ [(x,u)])
  (hsp:∀ H:Hp,Only H->SqL K H a (ns.map V.int)->sp [.ref a] H (fun v _=>v=.bl true) fun _ _ _=>False)
  (hCX:∀ H e s',CX [] H s₁ (fun _ _ _=>False) e s'->False) :
  codeAny (model P w) callerA (.call (.ref fa) ⟨[.ref a],[]⟩) (fun r s'=>r=.ok (.ret (.bool true))/\OldK s₁.heap s'.heap/\s'.os=s₁.os/\AllBare s'.gens) s₁:=by
 have rv:=vals_ints hi
 have lenV:=hi.length
 have core:∀ H:Hp,Only H->SqL K H a (ns.map V.int)->HOk P w H s₁.heap->(∀ b,H b≠none->b=a)->(H a≠none->K.lookup a=none)->
   codeAny (model P w) callerA (.call (.ref fa) ⟨[.ref a],[]⟩) (fun r s'=>r=.ok (.ret (.bool true))/\OldK s₁.heap s'.heap/\s'.os=s₁.os/\AllBare s'.gens) s₁:=by
  intro H hO hS hok hA hK
  have base_of:∀ {b:Addr} {o:Obj},s₁.heap.get? b=some o->H b=none->(hidT s₁.heap H).get? b=some o:=fun e n=>hidT_get e n
  have noA:∀ {b:Addr} {o:Obj} {es:Array DictEntry} {ep:Nat},s₁.heap.get? b=some o->o.data=.dict es ep->H b=none:=fun {b o es ep} e d=>by
   cases q:H b with
   |none=>rfl
   |some u=>
    have e':b=a:=hA b (by rw [q]; simp)
    subst e'
    rw [ha] at e; cases e
    have d':Data.seq vs.toArray _=Data.dict es ep:=d
    cases d'
  have nsK:∀ {b:Addr} {m:Str->Option Value},s₁.heap.Ns b m->(hidT s₁.heap H).Ns b m:=fun {b m} ⟨o,es,ep,e,d,r⟩=>⟨o,es,ep,base_of e (noA e d),d,r⟩
  have hKb:K.In (hidT s₁.heap H):=fun b o e=>base_of (KX b o e) (by
   cases q:H b with
   |none=>rfl
   |some u=>
    have e':b=a:=hA b (by rw [q]; simp)
    subst e'
    rw [hK (by rw [q]; simp)] at e; cases e)
  have hM:Mod K mg (hidT s₁.heap H):=⟨hKb,nsK hns,⟨mb,nsK hb,hbb⟩,let ⟨mc,h1,h2⟩:=hlim; ⟨mc,nsK h1,h2⟩⟩
  have e0:Env0 P w K mg (hidT s₁.heap H) callerA [] s₁ H:=⟨rfl,hM,fun b o e=>of_hidT e,Nat.le_of_eq (hidT_size _ _),trivial,fun b hb=>absurd (show b∈([]:List Addr) from hb) (by simp),hok,.of_eq hg⟩
  refine codeAny_mono ((F _ hKb (nsK hns)).run callerA [] s₁ H ⟨[.ref a],[]⟩ [.ref a] [.ref a] _ _ hr e0 (hbind s₁ (.ref a)) (.cons rfl .nil) (hsp H hO hS)) fun r s' h=>?_
  cases r with
  |error e=>exact (hCX H e s' h).elim
  |ok fl=>
   cases fl with
   |next=>exact False.elim h
   |brk=>exact False.elim h
   |cont=>exact False.elim h
   |ret u=>
    obtain ⟨v,H',os,bare,un,hok',r',q⟩:=h
    have q':v=.bl true:=q
    subst q'
    obtain rfl:u=Value.bool true:=r'
    refine ⟨rfl,OldK.of_keep fun b o e=>?_,os,bare⟩
    cases q:H b with
    |none=>exact un.keep b o e q (by intro z; exact absurd (show b∈([]:List Addr) from z) (by simp)) (by simp)
    |some u=>
     rcases hO b with z|⟨ob,xs,z⟩
     ·rw [q] at z; cases z
     ·have z2:=un.frzs b ob _ z
      obtain ⟨e1,_⟩:=hok b _ z
      obtain ⟨e2,_⟩:=hok' b _ z2
      rw [e] at e1; cases e1
      exact e2
 cases hk:K.lookup a with
 |some o=>
  have e:=KX a o hk
  rw [ha] at e
  cases e
  refine core (fun _=>none) (fun _=>.inl rfl) (.inr ⟨_,vs.toArray,_,hk,rfl,rfl,rfl,by rw [List.size_toArray,lenV]; exact hl,by simpa using rv⟩) (fun b u z=>by have z':(none:Option HO)=some u:=z; cases z') (fun b z=>absurd rfl z) fun z=>absurd rfl z
 |none=>
  refine core (fun b=>if b=a then some (.frz {cls:=.type "list",data:=.seq vs.toArray} (.lst (ns.map V.int))) else none) (fun b=>?_) (.inl (.inr ⟨{cls:=.type "list",data:=.seq vs.toArray},if_pos rfl⟩)) (fun b u z=>?_) (fun b z=>?_) fun _=>hk
  ·by_cases hb:b=a
   ·exact .inr ⟨_,_,if_pos hb⟩
   ·exact .inl (if_neg hb)
  ·by_cases hb:b=a
   ·have z':=(if_pos hb).symm.trans z
    cases z'
    subst hb
    exact ⟨ha,by rw [List.length_map]; exact hl,vs,_,rv,ha⟩
   ·have z':=(if_neg hb).symm.trans z
    cases z'
  ·by_cases hb:b=a
   ·exact hb
   ·exact absurd (if_neg hb) z
end L2
namespace L2
open PySem PySem.Spec PyProof.Rows
end L2
namespace L2
open PySem PySem.Spec PyProof.Rows
def zK (s:Stmt):Arguments:=match s with
 |.FunctionDef _ a _ _ _ _ _ _ _ _=>a
 |_=>{posonlyargs:=[],args:=[],vararg:=none,kwonlyargs:=[],kw_defaults:=[],kwarg:=none,defaults:=[]}
def zJ (s:Stmt):List Stmt:=match s with
 |.FunctionDef _ _ b _ _ _ _ _ _ _=>b
 |_=>[]
def zD (s:Stmt):Scope:=match s with
 |.FunctionDef _ _ _ _ _ _ sc _ _ _=>sc
 |_=>{kind:=.function,names:=[],isGenerator:=false,isCoroutine:=false}
abbrev E0:XK:=fun _ _ _=>False
section
variable {P:Program} {w:World} {K:PySem.W.Frag} {mg:Str->Option Value} {base:Heap}
end
section
variable {X:Cx}
theorem pv (i:Nat) {x:Str} {pos:Pos} (hN:X.N[i]?=some x:=by rfl) (hv:Vis X.env.scope x:=by first|exact Or.inl rfl|exact Or.inr (Or.inl rfl)|exact Or.inr (Or.inr rfl)) (hd:(x == ("__debug__" : Str))=false:=by decide)
  (hcd:(x == ("__classdict__" : Str))=false:=by decide):PE X (.Name x pos) (tVar i):=pe_var hN hv hd hcd
end
theorem iteF {A B:Prop} (h:B):if false=true then A else B:=by
 rw [if_neg Bool.false_ne_true]
 exact h
theorem iteT {A B:Prop} (h:A):if true=true then A else B:=by
 rw [if_pos rfl]
 exact h
def Same (H H':Hp):Prop:=∀ b o,H b=some o->H' b=some o
theorem Same.refl (H:Hp):Same H H:=fun _ _ h=>h
theorem Same.trans {H H1 H2:Hp} (a:Same H H1) (b:Same H1 H2):Same H H2:=fun c o h=>b c o (a c o h)
theorem Same.free {H H':Hp} (e:Same H H') {l:Addr} (h:H' l=Option.none):H l=Option.none:=by
 cases q:H l with
 |none=>rfl
 |some o=>
  rw [e l o q] at h
  cases h
theorem Same.seq {K:PySem.W.Frag} {H H':Hp} {a:Addr} {xs:List V} (e:Same H H') (h:SqL K H a xs):SqL K H' a xs:=by
 rcases h with (h|⟨o,h⟩)|h
 ·exact .inl (.inl (e _ _ h))
 ·exact .inl (.inr ⟨o,e _ _ h⟩)
 ·exact .inr h
end L2
namespace Kw
theorem gcd_step (g s:Int) (hg:0<=g) (hs:0 < s):Int.gcd s (g % s)=Int.gcd g s:=by
 obtain ⟨m,rfl⟩:=Int.eq_ofNat_of_zero_le hg
 obtain ⟨n,rfl⟩:=Int.eq_ofNat_of_zero_le (Int.le_of_lt hs)
 have e:((m:Int) % (n:Int))=((m % n:Nat):Int):=by omega
 rw [e]
 show Nat.gcd n (m % n)=Nat.gcd m n
 rw [Nat.gcd_comm m n,Nat.gcd_rec n m,Nat.gcd_comm]
theorem gcd_abs (a b:Int):Int.gcd (if a < 0 then -a else a) (if b < 0 then -b else b)=Int.gcd a b:=by
 have e:∀ x:Int,(if x < 0 then -x else x).natAbs=x.natAbs:=fun x=>by split<;>omega
 show Nat.gcd _ _=Nat.gcd _ _
 rw [e,e]
theorem gcd_end (g:Int) (hg:0<=g):((Int.gcd g 0:Nat):Int)=g:=by
 show ((Nat.gcd g.natAbs 0:Nat):Int)=g
 rw [Nat.gcd_zero_right]; omega
theorem abs_nn (a:Int):0<=(if a < 0 then -a else a):=by split<;>omega
def dv (t b:Int):Int:=if b < 0 then -((Int.gcd t b:Nat):Int) else ((Int.gcd t b:Nat):Int)
def fT (t b:Int):Int:=t.fdiv (dv t b)
def fB (t b:Int):Int:=b.fdiv (dv t b)
theorem ZX {t b:Int} (h:b≠0):dv t b≠0:=by
 have hp:0 < Int.gcd t b:=Int.gcd_pos_of_ne_zero_right _ h
 unfold dv; split<;>omega
theorem dv_le {t b:Int} (h:b≠0):(dv t b).natAbs<=b.natAbs:=by
 have hd:Int.gcd t b ∣ b.natAbs:=Nat.gcd_dvd_right _ _
 have:=Nat.le_of_dvd (by omega) hd
 unfold dv; split<;>omega
theorem dv_dvd_b (t b:Int):dv t b ∣ b:=by
 have h:((Int.gcd t b:Nat):Int) ∣ b:=Int.gcd_dvd_right ..
 unfold dv; split
 ·exact (Int.neg_dvd).mpr h
 ·exact h
theorem dv_dvd_t (t b:Int):dv t b ∣ t:=by
 have h:((Int.gcd t b:Nat):Int) ∣ t:=Int.gcd_dvd_left ..
 unfold dv; split
 ·exact (Int.neg_dvd).mpr h
 ·exact h
theorem fT_mul (t b:Int):dv t b * fT t b=t:=by
 unfold fT
 exact Int.mul_fdiv_cancel' (dv_dvd_t t b)
theorem fB_mul (t b:Int):dv t b * fB t b=b:=by
 unfold fB
 exact Int.mul_fdiv_cancel' (dv_dvd_b t b)
theorem fB_pos {t b:Int} (h:b≠0):0 < fB t b:=by
 have e:=fB_mul t b
 have hn:=ZX (t:=t) h
 have hg:0<=((Int.gcd t b:Nat):Int):=Int.natCast_nonneg _
 rcases Int.lt_or_gt_of_ne h with hb|hb
 ·have hd:dv t b < 0:=by unfold dv at hn ⊢; rw [if_pos hb] at hn ⊢; omega
  refine Int.not_le.mp fun q=>?_
  have:=Int.mul_nonneg_of_nonpos_of_nonpos (Int.le_of_lt hd) q
  omega
 ·have hd:0 < dv t b:=by unfold dv at hn ⊢; rw [if_neg (by omega)] at hn ⊢; omega
  refine Int.not_le.mp fun q=>?_
  have:=Int.mul_nonpos_of_nonneg_of_nonpos (Int.le_of_lt hd) q
  omega
theorem jv {d x:Int} (h:d≠0):x.natAbs<=(d * x).natAbs:=by
 rw [Int.natAbs_mul]
 exact Nat.le_mul_of_pos_left _ (by omega)
theorem fT_le {t b:Int} (h:b≠0):(fT t b).natAbs<=t.natAbs:=by
 have q:=jv (x:=fT t b) (ZX (t:=t) h)
 rw [fT_mul] at q; exact q
theorem fB_le {t b:Int} (h:b≠0):(fB t b).natAbs<=b.natAbs:=by
 have q:=jv (x:=fB t b) (ZX (t:=t) h)
 rw [fB_mul] at q; exact q
end Kw
set_option maxHeartbeats 4000000
namespace Kw
open PySem PySem.Spec PyProof.Rows L2
def But (b:Addr) (H H':Hp):Prop:=∀ a o,a≠b->H a=some o->H' a=some o
theorem But.refl {b:Addr} (H:Hp):But b H H:=fun _ _ _ h=>h
theorem But.trans {b:Addr} {H H1 H2:Hp} (x:But b H H1) (y:But b H1 H2):But b H H2:=fun a o n h=>y a o n (x a o n h)
theorem But.of {b:Addr} {H H':Hp} (x:Same H H'):But b H H':=fun a o _ h=>x a o h
theorem Zh {H:Hp} {p:Addr} (h:H p=none) (o:HO):Same H (upd H p o):=fun b u q=>by rw [zX (zI q h)]; exact q
theorem but_upd {H:Hp} {p:Addr} (o:HO):But p H (upd H p o):=fun b u n q=>by rw [zX n]; exact q
theorem Same.tup {K:PySem.W.Frag} {H H':Hp} {a:Addr} {xs:List V} (e:Same H H') (h:SqT K H a xs):SqT K H' a xs:=by
 rcases h with (h|⟨o,h⟩)|h
 ·exact .inl (.inl (e _ _ h))
 ·exact .inl (.inr ⟨o,e _ _ h⟩)
 ·exact .inr h
theorem But.tup {K:PySem.W.Frag} {H H':Hp} {b a:Addr} {ys xs:List V} (e:But b H H') (hb:H b=some (.lst ys)) (h:SqT K H a xs):SqT K H' a xs:=by
 rcases h with (h|⟨o,h⟩)|h
 ·exact .inl (.inl (e _ _ (zw h hb (by intro z; cases z)) h))
 ·exact .inl (.inr ⟨o,e _ _ (zw h hb (by intro z; cases z)) h⟩)
 ·exact .inr h
section
variable {σ:L2.St} {H:Hp} {Q:VK} {v:V} {i j:Int} {K:PySem.W.Frag} {p:Addr} {xs:List V}
theorem JC {R:V->Hp->Prop} {o:HO} (h:∀ p H',Same H H'->H' p=some o->R (.ref p) H'):∀ p,H p=none->R (.ref p) (upd H p o):=fun p hp=>h p _ (Zh hp o) zq
end
theorem if_cases {c:Bool} {A B:Prop} (h1:c=true->A) (h2:c=false->B):if c=true then A else B:=by
 cases c
 ·exact iteF (h2 rfl)
 ·exact iteT (h1 rfl)
theorem zb {c:Prop} [Decidable c] {A B:Prop} (h1:c->A) (h2:¬ c->B):if decide c=true then A else B:=
 if_cases (fun e=>h1 (of_decide_eq_true e)) (fun e=>h2 (of_decide_eq_false e))
theorem jD {i j:Int} {A B:Prop} (h1:i=j->A) (h2:i≠j->B):if decide (V.int i=V.int j)=true then A else B:=
 zb (fun e=>h1 (V.int.inj e)) (fun e=>h2 fun z=>e (congrArg V.int z))
theorem if_neI {i j:Int} {A B:Prop} (h1:i≠j->A) (h2:i=j->B):if (!decide (V.int i=V.int j))=true then A else B:=by
 by_cases e:i=j
 ·rw [show decide (V.int i=V.int j)=true by simp [e]]; exact iteF (h2 e)
 ·rw [show decide (V.int i=V.int j)=false by simp [e]]; exact iteT (h1 e)
section
variable {X:Cx} {a b c:Expr} {ta tb tc:TE} {pos:Pos}
def CDivB (_ j:Int):Prop:=j≠0/\j.natAbs.log2 < 9000
theorem z7:OpR X (binaryOp .FloorDiv) (rI CDivB fun i j=>.int (i.fdiv j)):=opI fun _ _ _ _ _ _ _ hc q=>floordiv_int hc.1 q (.inl (PyProof.noPylong_of_log2 hc.2))
theorem zc:OpR X (binaryOp .Mult) (rI IntMulOk fun i j=>.int (i * j)):=opI fun _ _ _ _ _ _ _ hc q=>mul_int q hc
theorem call_divmodB:jJ X (.builtin "divmod") (fun xs H Q=>∃ i j,xs=[.int i,.int j]/\(0 < j/\j.natAbs.log2 < 9000)/\∀ p,H p=none->Q (.ref p) (upd H p (.tup [.int (i / j),.int (i % j)]))):=by
 intro pins s σ H xs us Q I r h
 obtain ⟨i,j,rfl,⟨h1,h2⟩,q⟩:=h
 obtain ⟨u,w',rfl,⟨t,rfl⟩,⟨t',rfl⟩⟩:=vals2 r
 refine divmod_int (by omega) ?_ (.inl (PyProof.noPylong_of_log2 h2))
 rw [Int.fdiv_eq_ediv_of_nonneg i (by omega),Int.fmod_eq_emod_of_nonneg i (by omega)]
 have hn:H s.heap.objs.size=none:=I.hok.fresh (Nat.le_refl _)
 refine ⟨.ref s.heap.objs.size,_,?_,rfl,q _ hn⟩
 refine I.laid (fun b o e=>Heap.get?_push_of_some _ e) (Nat.le_refl _) ⟨by simp only [List.length_cons,List.length_nil]; rw [sizeLine_eq]; decide,[.int (i / j) s.toks,.int (i % j) (s.toks+1)],.cons ⟨_,rfl⟩ (.cons ⟨_,rfl⟩ .nil),?_⟩
 exact ⟨_,Heap.get?_push_size s.heap rfl,rfl,0,rfl⟩
theorem zW {x:Str} {i:Int} {pos:Pos} (hg:Gl X x) (hm:∃ t,X.mg x=some (.int i t)) (hd:(x == ("__debug__" : Str))=false:=by decide) (hcd:(x == ("__classdict__" : Str))=false:=by decide):PE X (.Name x pos) (tC (.int i)):=by
 obtain ⟨t,hm⟩:=hm
 exact pe_glob hg hm ⟨t,rfl⟩ hd
theorem YM {x:Str} {T:String} {pos:Pos} (hg:Gl X x) (hm:X.mg x=none) (hv:bootBuiltins x=some (.type T)) (hn:x≠"__name__":=by decide) (hd:(x == ("__debug__" : Str))=false:=by decide):PE X (.Name x pos) (tC (.ty T)):=
 pe_bltn hg hm hv (v:=.ty T) rfl hn hd
def valC:V->Value
 |.ty T=>.type T
 |.ref C=>.ref C
 |_=>.none
def IsI (K:PySem.W.Frag) (H:Hp) (x c:V) (b:Bool):Prop:=∃ t,TyOf K H x t/\kitOne K t (valC c)=some b
theorem jm:jJ X (.builtin "isinstance") (fun xs H Q=>∃ x c b,xs=[x,c]/\((∃ T,c=.ty T)\/∃ C,c=.ref C)/\IsI X.K H x c b/\Q (.bl b) H):=by
 intro pins s σ H xs us Q I r h
 obtain ⟨x,c,b,rfl,hc,⟨t,ty,e⟩,q⟩:=h
 obtain ⟨u,w',rfl,rx,rc⟩:=vals2 r
 have ec:w'=valC c:=by
  rcases hc with ⟨T,rfl⟩|⟨C,rfl⟩
  ·exact rc
  ·exact rc
 subst ec
 exact isinst_ok I rx ty e fun tk=>⟨.bl b,H,I.tok _,rfl,q⟩
end
section
variable {M:Model} {A:Around} {E:Value->Shared->Prop} {s:Shared} {bs:Heap} {l up:List Env} {env:Env} {x L:Addr} {c:Value} {od:Option Addr} {a0 fl:Value} {Q:Unit->Shared->Prop}
end
structure FlyAt (H:Hp) (h0 h:Heap) (x:Addr) (C:Value) (od:Option Addr):Prop where
 new:h0.get? x=none
 free:H x=none
 tr:∃ oe vs a0 T oT ts,h.get? x=some oe/\oe.cls=C/\oe.dict=od/\oe.data=.fields vs/\vs[0]?=some a0/\vs[1]?=some (.ref T)/\h0.get? T=none/\H T=none/\T≠x/\h.get? T=some oT/\oT.data=.fields ts/\ts[3]?=some .none
def CXE (P:Program) (w:World):CXT:=fun outer H s E e s'=>
 ∃ (x:Addr) (C:Value) (od:Option Addr) (H':Hp),e=.ref x/\s'.os=s.os/\AllBare s'.gens/\Un (frs outer) [] H H' s.heap s'.heap/\HOk P w H' s'.heap/\FlyAt H' s.heap s'.heap x C od/\E C od H'
theorem zG {P:Program} {w:World} {X:Cx}:jW (CXE P w) X E0:=fun _ _ _ _ _ _ _ h=>by
 obtain ⟨_,_,_,_,_,_,_,_,_,_,q⟩:=h
 exact q.elim
section
variable {X:Cx} {pins:List (Addr × Obj)} {σ:L2.St} {H:Hp} {s:Shared} {h':Heap} {ch:List Addr}
structure Flown (X:Cx) (H:Hp) (h h':Heap) (ch:List Addr):Prop where
 keep:∀ b o,h.get? b=some o->b∉frs X.stack->b∉ch->h'.get? b=some o
 slot:∀ b o,h.get? b=some o->b∈frs X.stack->∃ sl,h'.get? b=some {o with slots:=sl}
 young:∀ b∈ch,X.s₀.heap.get? b=none/\H b=none
end
section
variable {X:Cx} {x:Str} {C:Addr} {E:XK} {e:Expr} {es:List Expr} {t:TA} {np cpos pos:Pos}
end
structure Fu (K:PySem.W.Frag) (x:Str) (st:Stmt) (f:Addr) (fd:FuncData):Prop where
 ex:∃ (oc:Value) (od:Option Addr) (dV kV doc pm:Value) (an:Option Addr) (cdv ct:Value) (osl:Array (Option Value)),
  fd=fnOf x x (zK st) (zJ st) (zD st) dV kV doc pm an cdv ct/\K.lookup f=some ⟨oc,od,.func fd,osl⟩/\codeIn K cdv x=true
 kp:keepIn K (.ref f)=true
structure Df (K:PySem.W.Frag) (mg:Str->Option Value) (x:Str) (st:Stmt) (ps:List Str):Prop where
 ex:∃ f fd,Fu K x st f fd/\Za K fd ps []/\mg x=some (.ref f)
structure Fn (P:Program) (w:World) (K:PySem.W.Frag) (mg:Str->Option Value) (base:Heap) (k:Nat) (x:Str) (ps:List Str) (sp:Sp):Prop where
 ex:∃ f fd,FnOk P w K mg base (CXE P w) k f fd ps sp/\mg x=some (.ref f)/\keepIn K (.ref f)=true/\Za K fd ps []/\∃ oc od osl,K.lookup f=some ⟨oc,od,.func fd,osl⟩
section
variable {P:Program} {w:World} {K:PySem.W.Frag} {mg:Str->Option Value} {base:Heap} {x:Str} {st:Stmt} {N ps:List Str} {k:Nat} {sp:Sp}
theorem Df.ok0 (D:Df K mg x st ps) (S:FnScope N ps (zD st)) (len:∀ vs H Q E,sp vs H Q E->vs.length=ps.length)
  (hbody:∀ (f:Addr) (cdv:Value) (A:Around) (outer:List Env) (s:Shared) (H:Hp) (vs:List V) (Q:VK) (E:XK),Room k (A.deeper (envOfC x (zD st) s.heap.objs.size f cdv))->sp vs H Q E->
   ∃ t,PSs (cxOf (CXE P w) P w K mg base N x (zD st) f cdv A outer s H E).nox (zJ st) t/\t {nx:=fun _ H'=>Q .non H',rt:=Q} (Yc N vs) H):Fn P w K mg base (k+1) x ps sp:=by
 obtain ⟨f,fd,⟨⟨oc,od,dV,kV,doc,pm,an,cdv,ct,osl,rfl,lk,hcd⟩,kp⟩,bd,hm⟩:=D.ex
 refine ⟨f,_,fn_of lk hcd S len fun A outer s H vs Q E hr hsp=>?_,hm,kp,bd,_,_,_,lk⟩
 obtain ⟨t,h,q⟩:=hbody f cdv A outer s H vs Q E hr hsp
 exact ⟨t,h.nox,q⟩
end
section
variable {X:Cx} {k k':Nat} {x:Str} {ps:List Str} {sp:Sp} {E:XK} {p pos:Pos} {e:Expr} {es:List Expr} {t:TA}
theorem zL (F:Fn X.prog X.w X.K X.mg X.base k x ps sp) (hk:k<=k') (hr:Room k' X.A) (hg:Gl X x) (hx:jW (CXE X.prog X.w) X E) (ha:PA X (e::es) t) (hdb:(x == ("__debug__" : Str))=false:=by decide)
  (he:starEach (e::es) X.env=(false,eval e X.env)::starEach es X.env:=by rfl) (hpl:(backTo pos (starEach es X.env)).any (·.1)=false:=by rfl):PE X (.Call (.Name x p) (e::es) [] pos) (tCall sp [] E t):=by
 obtain ⟨f,fd,G,hm,kp,bd,_⟩:=F.ex
 exact pe_call G (hr.mono hk) hg hm kp bd .nil hx ha hdb he hpl
end
def Bd (n:Nat) (i:Int):Prop:=i.natAbs < 2 ^ n
theorem Bd.mono {m n:Nat} {i:Int} (h:Bd m i) (l:m<=n):Bd n i:=Nat.lt_of_lt_of_le h (Nat.pow_le_pow_right (by decide) l)
theorem Bd.of_le {n:Nat} {i j:Int} (h:Bd n j) (l:i.natAbs<=j.natAbs):Bd n i:=Nat.lt_of_le_of_lt l h
theorem Bd.bits {n:Nat} {i:Int} (h:Bd n i):Builtin.Int.intBits i<=n:=intBits_le_iff.mpr h
theorem YW {n:Nat} {i:Int} (h:Builtin.Int.intBits i<=n):Bd n i:=intBits_le_iff.mp h
theorem Bd.mul {m n:Nat} {i j:Int} (h:Bd m i) (g:Bd n j):Bd (m+n) (i * j):=YW (intBits_mul_le h.bits g.bits)
theorem Bd.add {m:Nat} {i j:Int} (h:Bd m i) (g:Bd m j):Bd (m+1) (i+j):=YW (Nat.le_trans (intBits_add_le h.bits g.bits) (by omega))
theorem Bd.sub {m:Nat} {i j:Int} (h:Bd m i) (g:Bd m j):Bd (m+1) (i - j):=YW (Nat.le_trans (intBits_sub_le h.bits g.bits) (by omega))
theorem Bd.ok {m n:Nat} {i j:Int} (h:Bd m i) (g:Bd n j) (l:m+n<=134217728):IntMulOk i j:=.of_le h.bits g.bits l
theorem Bd.small {i:Int} (h1:-(2 ^ 64) < i) (h2:i < 2 ^ 64):Bd 64 i:=YW (intBits_le_64 h1 h2)
theorem Bd.log {i:Int} (h:Bd 9000 i):i.natAbs.log2 < 9000:=by
 by_cases h0:i.natAbs=0
 ·rw [h0]; decide+kernel
 ·exact (Nat.log2_lt h0).mpr h
theorem JG {i j:Int} (h1:-(2 ^ 64) < j) (h2:j < 2 ^ 64):IntMulOk i j:=.of_right (intBits_le_64 h1 h2)
theorem ZJ {i j:Int} (h1:-(2 ^ 64) < i) (h2:i < 2 ^ 64):IntMulOk i j:=.of_left (intBits_le_64 h1 h2)
theorem bd_fT {n:Nat} {t b:Int} (h:b≠0) (g:Bd n t):Bd n (fT t b):=g.of_le (fT_le h)
theorem bd_fB {n:Nat} {t b:Int} (h:b≠0) (g:Bd n b):Bd n (fB t b):=g.of_le (fB_le h)
theorem bd_dv {n:Nat} {t b:Int} (h:b≠0) (g:Bd n b):Bd n (dv t b):=g.of_le (dv_le h)
section
variable {K:PySem.W.Frag}
theorem yr:kitOne K (.type "int") (.type "int")=some true:=by with_unfolding_all rfl
theorem yY:kitOne K (.type "int") (.type "bool")=some false:=by with_unfolding_all rfl
theorem ji:kitOne K (.type "tuple") (.type "tuple")=some true:=by with_unfolding_all rfl
end
def Yn (K:PySem.W.Frag):Sp:=fun vs H Q _=>∃ x t b1 b2,vs=[x]/\TyOf K H x t/\kitOne K t (.type "int")=some b1/\kitOne K t (.type "bool")=some b2/\Q (.bl (b1 && !b2)) H
def Frac (t b:Int) (H:Hp) (Q:VK):Prop:=∀ p H',Same H H'->H' p=some (.tup [.int (fT t b),.int (fB t b)])->Q (.ref p) H'
def Scr (K:PySem.W.Frag) (H:Hp) (a:Addr):Prop:=∃ ns:List Int,SqL K H a (ns.map V.int)/\ns.length<=63/\∀ n∈ns,Bd 1048576 n
def spCell (K:PySem.W.Frag):Sp:=fun vs H Q _=>∃ a k,vs=[.ref a,.int k]/\Scr K H a/\0<=k/\k<=1000/\∀ c,Bd 1048576 c->Q (.int c) H
def spMix:Sp:=fun vs H Q _=>∃ c k,vs=[.int c,.int k]/\Bd 1048576 c/\0<=k/\k<=1000/\∀ n,Q (.int n) H
def spBox (K:PySem.W.Frag):Sp:=fun vs H Q _=>∃ a k,vs=[.ref a,.int k]/\Scr K H a/\0<=k/\k<=1000/\∀ p n H',H p=none->Same H H'->H' p=some (.lst [.int n])->Q (.ref p) H'
def spTake:Sp:=fun vs H Q _=>∃ b m n,vs=[.ref b,.int m]/\H b=some (.lst [.int n])/\0 < m/\Bd 9000 m/\∀ d n' H',0<=d->d < m->But b H H'->H' b=some (.lst [.int n'])->Q (.int d) H'
def spFit:Sp:=fun vs H Q _=>∃ a b:Int,vs=[.int a,.int b]/\b≠0/\Bd 9000 b/\Frac a b H Q
section
variable {X:Cx} {pins:List (Addr × Obj)} {σ:L2.St} {H:Hp} {s:Shared} {h':Heap} {ch:List Addr} {x:Addr}
theorem Inv.adopt (hcl:∀ y c,X.env.cells.lookup y=some c->c≠x) {o:HO} (I:Inv X pins σ H s) (n0:X.s₀.heap.get? x=none) (hx:H x=none) (hL:x≠X.env.locals) (np:∀ p∈X.pn++pins,p.1≠x) (ok:zp X.prog X.w (upd H x o) s.heap x o) :
  Inv X pins σ (upd H x o) s:=by
 have nx:∀ b,H b≠none->b≠x:=fun b hb z=>hb (by rw [z]; exact hx)
 refine ⟨I.ok,I.os,I.bare,⟨I.base.keep,I.base.slot,fun b ob q n hb=>?_,I.base.there,fun b xs q=>?_,fun b ob u q=>?_,fun b ps q=>?_⟩,I.loc,I.cell,?_,fun y c z=>?_,fun p hp=>?_,fun a u e=>?_,I.len⟩
 ·rw [zX fun z=>by rw [z,n0] at q; cases q]
  exact I.base.free b ob q n hb
 ·have z:=I.base.tups b xs q
  rw [zX (nx b (by rw [z]; exact fun q=>nomatch q))]
  exact z
 ·have z:=I.base.frzs b ob u q
  rw [zX (nx b (by rw [z]; exact fun q=>nomatch q))]
  exact z
 ·obtain ⟨more,z⟩:=I.base.tbls b ps q
  exact ⟨more,by rw [zX (nx b (by rw [z]; exact fun q=>nomatch q))]; exact z⟩
 ·rw [zX (Ne.symm hL)]
  exact I.free
 ·rw [zX (hcl y c z)]
  exact I.freeC y c z
 ·obtain ⟨a,b,c,d,e⟩:=I.pin p hp
  exact ⟨a,by rw [zX (np p hp)]; exact b,c,d,e⟩
 ·by_cases z:a=x
  ·subst z
   rw [zq] at e
   cases e
   exact ok
  ·rw [zX z] at e
   refine (I.hok a u e).stay (fun b v hb q=>q) (fun b q=>?_) fun b xs q=>?_
   ·rw [zX (nx b (by rw [q]; exact fun q=>nomatch q))]
    exact q
   ·rw [zX (nx b (by rw [q]; exact fun q=>nomatch q))]
    exact q
end
section
variable {X:Cx} {pins:List (Addr × Obj)} {σ:L2.St} {H:Hp} {s:Shared}
end
section
variable {X:Cx} {k k' i j:Nat} {fx y n xK:Str} {ps:List Str} {sp:Sp} {CK:Addr} {e:Expr} {es:List Expr} {t:TA} {ts:TS} {b₀:Stmt} {suite:List Stmt} {np cpos yp apos kp hpos pos:Pos}
end
section
variable {X:Cx}
end
section
variable {X:Cx} {pins:List (Addr × Obj)} {σ:L2.St} {H:Hp} {s:Shared} {h':Heap} {ch:List Addr}
end
section
variable {X:Cx}
theorem all_range_eq:∀ (ns ms:List Int),((List.range (min ns.length ms.length)).all (fun j=>decide (ns[j]?=ms[j]?)) && ns.length == ms.length)=decide (ns=ms):=by
 intro ns ms
 by_cases e:ns=ms
 ·subst e
  rw [decide_eq_true rfl,Bool.and_eq_true]
  exact ⟨List.all_eq_true.mpr fun j _=>decide_eq_true rfl,beq_self_eq_true _⟩
 ·rw [decide_eq_false e,Bool.and_eq_false_iff]
  by_cases l:ns.length=ms.length
  ·left
   refine Bool.eq_false_iff.mpr fun h=>e (List.ext_getElem? fun i=>?_)
   by_cases hi:i < ns.length
   ·exact of_decide_eq_true (List.all_eq_true.mp h i (List.mem_range.mpr (by omega)))
   ·rw [List.getElem?_eq_none (by omega),List.getElem?_eq_none (by omega)]
  ·right
   exact beq_eq_false_iff_ne.mpr l
theorem int_item {ns:List Int} {its:List Value} (r:Vals (ns.map V.int) its) {j:Nat} (h:j < its.toArray.size):∃ n t,ns[j]?=some n/\its.toArray[j]=Value.int n t:=by
 have hl:=r.length
 rw [List.length_map] at hl
 have hj:j < ns.length:=by simp at h; omega
 have e:(ns.map V.int)[j]?=some (V.int ns[j]):=by rw [List.getElem?_map,List.getElem?_eq_getElem hj]; rfl
 obtain ⟨u,hu,t,rfl⟩:=r.get e
 refine ⟨ns[j],t,List.getElem?_eq_getElem hj,?_⟩
 have hj':j < its.length:=by omega
 rw [List.getElem?_eq_getElem hj'] at hu
 simpa using Option.some.inj hu
theorem op_eqTI (hu:X.A.units < cLine):OpR X (compareOp .Eq) (fun x y H Q=>∃ (a b:Addr) (ns ms:List Int),x=.ref a/\y=.ref b/\SqT X.K H a (ns.map V.int)/\SqT X.K H b (ms.map V.int)/\Q (.bl (decide (ns=ms))) H):=by
 intro pins s σ H x y v u Q I rx ry h
 obtain ⟨a,b,ns,ms,rfl,rfl,ha,hb,q⟩:=h
 cases (show v=Value.ref a from rx)
 cases (show u=Value.ref b from ry)
 obtain ⟨its,r,pl,hz⟩:=I.tuple ha
 obtain ⟨jts,r',pl',hz'⟩:=I.tuple hb
 refine SeqAt.eq_tupleAt (e:=fun j=>decide (ns[j]?=ms[j]?)) pl pl' hu (fun j h1 h2=>?_) ?_
 ·obtain ⟨n,t,e1,e2⟩:=int_item r h1
  obtain ⟨m,t',e3,e4⟩:=int_item r' h2
  rw [e2,e4,e1,e3]
  have z:decide (some n=some m)=(n == m):=by
   by_cases c:n=m
   ·subst c; simp
   ·simp [c]
  rw [z]
  exact SeqAt.EqAt.int_int n t m t'
 ·have l1:its.toArray.size=ns.length:=by rw [List.size_toArray,<- r.length,List.length_map]
  have l2:jts.toArray.size=ms.length:=by rw [List.size_toArray,<- r'.length,List.length_map]
  rw [l1,l2,all_range_eq]
  exact ⟨.bl (decide (ns=ms)),H,I,rfl,q⟩
end
theorem Yd:∀ (ns:List Int) (n:Int),n∈ns->Builtin.Int.intBits n<=PySem.W.WData.weightAll (ns.map PySem.W.WData.int)
 |[],_,h=>nomatch h
 |m::r,n,h=>by
  have e:PySem.W.WData.weightAll ((m::r).map PySem.W.WData.int)=Builtin.Int.intBits m+1+PySem.W.WData.weightAll (r.map PySem.W.WData.int):=rfl
  rw [e]
  rcases List.mem_cons.mp h with z|z
  ·subst z; omega
  ·have:=Yd r n z
   omega
theorem script_bits {ns:List Int} (h:PySem.W.WData.layableAll [PySem.W.WData.list (ns.map PySem.W.WData.int)]=true):∀ n∈ns,Bd 1048576 n:=fun n hn=>by
 have h1:PySem.W.WData.layable (PySem.W.WData.list (ns.map PySem.W.WData.int))=true:=by
  unfold PySem.W.WData.layableAll at h
  simpa using h
 unfold PySem.W.WData.layable at h1
 rw [Bool.and_eq_true] at h1
 have h2:PySem.W.WData.weightAll (ns.map PySem.W.WData.int)<=2 ^ 20:=of_decide_eq_true h1.2
 exact YW (Nat.le_trans (Yd ns n hn) h2)
def spLaw (K:PySem.W.Frag):Sp:=fun vs H Q _=>∃ a,vs=[.ref a]/\Scr K H a/\∀ H',Q (.bl true) H'
theorem walk_kw {pn:Str} {l:PySem.W.OpenLaw} {k:Nat} {q:Program} {loose:List Str} {XP:(Str->Option Value)->Heap->Prop} {YP:World->Heap->Prop} {d:DefRec} {K:Params->PySem.W.Frag}
  (hn:l.most=some 63) (hdf:d.params.defaults=[]) (hr:Room k callerA) (hY:∀ (w:World) (h:Heap),YP w h->(K w.params).In h) (hnm:d.name="law")
  (F:∀ (w:World) (mg:Str->Option Value) (h:Heap),(K w.params).In h->h.Ns mainGlobals mg->∃ fa,mg "law"=some (.ref fa)/\∃ fd:FuncData,(∀ (s:Shared) (u:Value),BindsTo s fd ⟨[u],[]⟩ [(pn,u)])/\
   ∀ base:Heap,(K w.params).In base->base.Ns mainGlobals mg->FnOk l.prog w (K w.params) mg base (CXE l.prog w) k fa fd [pn] (spLaw (K w.params))) :
  PySem.W.WalkO q loose XP YP l.row.toRowW d [] (fun f vs=>PySem.call f vs):=by
 intro w s₀ s₁ mg mb G Y fa o pm cd doc dV kV ho hd hcd hD hmg hg args vals as hpre hlay hrd hwl hlo
 obtain ⟨a,vs,ns,e1,e2,hobj,hints,hlen⟩:=Att.script_of hn hpre hwl
 subst e1 e2
 have KX:=hY w _ Y
 obtain ⟨fa',hfa,fd,hb,hF⟩:=F w mg _ KX G.T.g
 rw [hnm,hfa] at hmg
 cases hmg
 have core:=law_call KX G.T.g G.T.b G.T.builtins G.T.nolimit hg hobj hints (Nat.le_trans hlen (by decide)) hr hF hb (fun H hO hS=>⟨a,rfl,⟨ns,hS,hlen,script_bits hlay⟩,fun _=>rfl⟩) (fun H e s' z=>by
  obtain ⟨_,_,_,_,_,_,_,_,_,_,z⟩:=z
  exact z)
 refine PySem.W.enter_call (codeAny_mono core fun r s' hq=>?_)
 obtain ⟨rfl,h2,h3,h4⟩:=hq
 exact ⟨.inl ⟨.bool true,.bool true,[],rfl,fun _=>rfl,.bool true,Att.post_true l _,fun _=>⟨List.Pairwise.nil,fun _ hm=>(nomatch hm)⟩⟩,h2,h3,h4⟩
theorem zZ {K:PySem.W.Frag} {h:Heap} {mg:Str->Option Value} {x:Str} {st:Stmt} {ps:List Str} {f:Addr} {od an:Option Addr} {sl:Array (Option Value)} {oc kV dc pm cd ct:Value} (X:K.In h) (G:h.Ns mainGlobals mg)
  (a:nsIn K mainGlobals x=some (some (.ref f))) (l:K.lookup f=some ⟨oc,od,.func (fnOf x x (zK st) (zJ st) (zD st) .none kV dc pm an cd ct),sl⟩) (c:codeIn K cd x=true) (k:keepIn K (.ref f)=true)
  (b:∀ us:List Value,us.length=ps.length->bindArgs (fnOf x x (zK st) (zJ st) (zD st) .none kV dc pm an cd ct) ⟨us,[]⟩=pure (ps.zip us)):Df K mg x st ps:=
 ⟨f,_,⟨⟨oc,od,.none,kV,dc,pm,an,cd,ct,sl,rfl,l,c⟩,k⟩,.all b,mg_of X G a⟩
theorem df_mkD {K:PySem.W.Frag} {h:Heap} {mg:Str->Option Value} {x:Str} {st:Stmt} {ps:List Str} {f D:Addr} {od an oD:Option Addr} {sl slD:Array (Option Value)} {oc kV dc pm cd ct cD:Value} {items:Array Value} {n:Nat} (X:K.In h) (G:h.Ns mainGlobals mg)
  (a:nsIn K mainGlobals x=some (some (.ref f))) (l:K.lookup f=some ⟨oc,od,.func (fnOf x x (zK st) (zJ st) (zD st) (.ref D) kV dc pm an cd ct),sl⟩) (c:codeIn K cd x=true) (k:keepIn K (.ref f)=true)
  (lD:K.lookup D=some ⟨cD,oD,.seq items n,slD⟩)
  (b:∀ us:List Value,us.length=ps.length->∃ kk:Option (Array Value)->Sem (List (Str × Value)),bindArgs (fnOf x x (zK st) (zJ st) (zD st) (.ref D) kV dc pm an cd ct) ⟨us,[]⟩=seqItems? (.ref D) >>= kk/\kk (some items)=pure (ps.zip us)):Df K mg x st ps:=
 ⟨f,_,⟨⟨oc,od,.ref D,kV,dc,pm,an,cd,ct,sl,rfl,l,c⟩,k⟩,fun s us hk hl=>by
  rw [List.append_nil] at hl ⊢
  obtain ⟨kk,h1,h2⟩:=b us hl
  exact BindsTo.of_defaults rfl (hk _ _ lD) rfl h1 h2,mg_of X G a⟩
theorem law_end {pn:Str} {P:Program} {w:World} {K:PySem.W.Frag} {h:Heap} {mg:Str->Option Value} {st:Stmt} {f:Addr} {od an:Option Addr} {sl:Array (Option Value)} {oc kV dc pm cd ct:Value} {k:Nat} (X:K.In h) (G:h.Ns mainGlobals mg)
  (a:nsIn K mainGlobals "law"=some (some (.ref f))) (l:K.lookup f=some ⟨oc,od,.func (fnOf "law" "law" (zK st) (zJ st) (zD st) .none kV dc pm an cd ct),sl⟩)
  (b:∀ u:Value,bindArgs (fnOf "law" "law" (zK st) (zJ st) (zD st) .none kV dc pm an cd ct) ⟨[u],[]⟩=pure [(pn,u)])
  (F:∀ base:Heap,K.In base->base.Ns mainGlobals mg->Fn P w K mg base k "law" [pn] (spLaw K)) :
  ∃ fa,mg "law"=some (.ref fa)/\∃ fd:FuncData,(∀ (s:Shared) (u:Value),BindsTo s fd ⟨[u],[]⟩ [(pn,u)])/\∀ base:Heap,K.In base->base.Ns mainGlobals mg->FnOk P w K mg base (CXE P w) k fa fd [pn] (spLaw K):=by
 have hm:=mg_of X G a
 refine ⟨f,hm,_,fun s u=>.of_eq (b u),fun base kb nb=>?_⟩
 obtain ⟨f',fd',G',hm',_,_,_,_,_,lk⟩:=(F base kb nb).ex
 rw [hm] at hm'
 cases hm'
 rw [l] at lk
 cases lk
 exact G'
end Kw
namespace Kw
theorem q_of {n d:Int} (hd:0 < d) (hg:Int.gcd n d=1):(Rat.divInt n d).num=n/\(((Rat.divInt n d).den:Nat):Int)=d:=by
 rw [Rat.num_divInt,Rat.den_divInt,Int.gcd_comm,hg,Int.sign_eq_one_of_pos hd,if_neg (by omega)]
 constructor
 ·simp
 ·simp; omega
theorem q_is {q:Rat} {n d:Int} (hd:0 < d) (hg:Int.gcd n d=1) (e:q=Rat.divInt n d):n=q.num/\d=((q.den:Nat):Int):=by
 subst e
 obtain ⟨a,b⟩:=q_of hd hg
 exact ⟨a.symm,b.symm⟩
theorem gcd_fT_fB {t b:Int} (h:b≠0):Int.gcd (fT t b) (fB t b)=1:=by
 have hp:0 < Int.gcd t b:=Int.gcd_pos_of_ne_zero_right _ h
 have e1:=fT_mul t b
 have e2:=fB_mul t b
 have e:Int.gcd (dv t b * fT t b) (dv t b * fB t b)=(dv t b).natAbs * Int.gcd (fT t b) (fB t b):=Int.gcd_mul_left ..
 rw [e1,e2] at e
 have hn:(dv t b).natAbs=Int.gcd t b:=by unfold dv; split<;>simp
 rw [hn] at e
 exact Nat.eq_of_mul_eq_mul_left hp (by omega)
theorem q_fit {t b:Int} (h:b≠0):fT t b=(Rat.divInt t b).num/\fB t b=(((Rat.divInt t b).den:Nat):Int):=by
 refine q_is (fB_pos h) (gcd_fT_fB h) ?_
 have e:=Rat.divInt_mul_left (n:=fT t b) (d:=fB t b) (ZX (t:=t) h)
 rw [fT_mul,fB_mul] at e
 exact e
theorem q_red (q:Rat):Int.gcd q.num ((q.den:Nat):Int)=1:=by
 have:=q.reduced
 simpa [Int.gcd,Nat.Coprime] using this
theorem YR (q:Rat):0 < ((q.den:Nat):Int):=by
 have:=q.den_nz
 omega
theorem q_add (x y:Rat):Rat.divInt (x.num * y.den+y.num * x.den) (x.den * y.den)=x+y:=by
 conv=>rhs; rw [<- Rat.num_divInt_den x,<- Rat.num_divInt_den y]
 rw [Rat.divInt_add_divInt _ _ (by have:=YR x; omega) (by have:=YR y; omega)]
theorem q_sub (x y:Rat):Rat.divInt (x.num * y.den - y.num * x.den) (x.den * y.den)=x - y:=by
 conv=>rhs; rw [<- Rat.num_divInt_den x,<- Rat.num_divInt_den y]
 rw [Rat.divInt_sub_divInt _ _ (by have:=YR x; omega) (by have:=YR y; omega)]
theorem q_mul (x y:Rat):Rat.divInt (x.num * y.num) (x.den * y.den)=x * y:=by
 conv=>rhs; rw [<- Rat.num_divInt_den x,<- Rat.num_divInt_den y]
 rw [Rat.divInt_mul_divInt]
theorem q_inv (y:Rat):Rat.divInt y.den y.num=y⁻¹:=by
 conv=>rhs; rw [<- Rat.num_divInt_den y]
 rw [Rat.inv_divInt]
theorem q_div (x y:Rat):Rat.divInt (x.num * y.den) (x.den * y.num)=x / y:=by
 rw [Rat.div_def,<- q_inv]
 conv=>rhs; rw [<- Rat.num_divInt_den x]
 rw [Rat.divInt_mul_divInt]
theorem q_neg (y:Rat):(-y).num=-y.num/\(-y).den=y.den:=⟨rfl,rfl⟩
theorem q_lt (x y:Rat):x < y↔x.num * y.den < y.num * x.den:=Rat.lt_iff x y
theorem y4 {x g:Int} (h:g ∣ x):g * x.fdiv g=x:=Int.mul_fdiv_cancel' h
theorem Yv {x g:Int} (h:g ∣ x):x.fdiv g ∣ x:=⟨g,by rw [Int.mul_comm]; exact (y4 h).symm⟩
theorem ZD {a b b':Int} (h:Int.gcd a b=1) (d:b' ∣ b):Int.gcd a b'=1:=by
 have h1:Int.gcd a b' ∣ Int.gcd a b:=Int.dvd_gcd (Int.gcd_dvd_left ..) (Int.dvd_trans (Int.gcd_dvd_right ..) d)
 rw [h] at h1
 exact Nat.dvd_one.mp h1
theorem ZL {a b c:Int} (h:Int.gcd a b=1) (k:Int.gcd a c=1):Int.gcd a (b * c)=1:=by
 show Nat.gcd a.natAbs (b * c).natAbs=1
 rw [Int.natAbs_mul]
 exact Nat.Coprime.mul_right h k
theorem cop_add {a b c:Int} (h:Int.gcd a b=1):Int.gcd (a+c * b) b=1:=by
 rw [Int.gcd_add_mul_right_left]; exact h
theorem YY {a b:Int} (h:b≠0) (g:Int) (hg:g=((Int.gcd a b:Nat):Int)):Int.gcd (a.fdiv g) (b.fdiv g)=1:=by
 have hp:0 < Int.gcd a b:=Int.gcd_pos_of_ne_zero_right _ h
 have e1:g * a.fdiv g=a:=y4 (by rw [hg]; exact Int.gcd_dvd_left ..)
 have e2:g * b.fdiv g=b:=y4 (by rw [hg]; exact Int.gcd_dvd_right ..)
 have e:Int.gcd (g * a.fdiv g) (g * b.fdiv g)=g.natAbs * Int.gcd (a.fdiv g) (b.fdiv g):=Int.gcd_mul_left ..
 rw [e1,e2] at e
 have hn:g.natAbs=Int.gcd a b:=by rw [hg]; simp
 rw [hn] at e
 exact Nat.eq_of_mul_eq_mul_left hp (by omega)
theorem Zw {b g:Int} (hb:0 < b) (hg:0 < g) (d:g ∣ b):0 < b.fdiv g:=by
 have e:=y4 d
 refine Int.not_le.mp fun q=>?_
 have:=Int.mul_nonpos_of_nonneg_of_nonpos (Int.le_of_lt hg) q
 omega
theorem gpos {a b:Int} (h:b≠0):0 < ((Int.gcd a b:Nat):Int):=by
 have:=Int.gcd_pos_of_ne_zero_right a h
 omega
theorem q_plus (x y:Rat) (g t h:Int) (hg:g=((Int.gcd ((x.den:Nat):Int) ((y.den:Nat):Int):Nat):Int)) (ht:t=x.num * ((y.den:Nat):Int).fdiv g+y.num * ((x.den:Nat):Int).fdiv g) (hh:h=((Int.gcd t g:Nat):Int)) :
  t.fdiv h=(x+y).num/\((x.den:Nat):Int).fdiv g * ((y.den:Nat):Int).fdiv h=(((x+y).den:Nat):Int):=by
 have hb:=YR x
 have hd:=YR y
 have rx:=q_red x
 have ry:=q_red y
 have ea:=q_add x y
 revert hb hd rx ry hg ht ea
 generalize x.num=a
 generalize y.num=c
 generalize ((x.den:Nat):Int)=b
 generalize ((y.den:Nat):Int)=d
 intro hg ht hb hd rx ry ea
 have g0:0 < g:=by rw [hg]; exact gpos (by omega)
 have h0:0 < h:=by rw [hh]; exact gpos (by omega)
 have gb:g ∣ b:=by rw [hg]; exact Int.gcd_dvd_left ..
 have gd:g ∣ d:=by rw [hg]; exact Int.gcd_dvd_right ..
 have hht:h ∣ t:=by rw [hh]; exact Int.gcd_dvd_left ..
 have hhg:h ∣ g:=by rw [hh]; exact Int.gcd_dvd_right ..
 have eb:=y4 gb
 have ed:=y4 gd
 have et:=y4 hht
 have eg:=y4 hhg
 have b0:=Zw hb g0 gb
 have d0:=Zw hd g0 gd
 have k0:=Zw g0 h0 hhg
 have cbd:Int.gcd (b.fdiv g) (d.fdiv g)=1:=YY (by omega) g hg
 have ctg:Int.gcd (t.fdiv h) (g.fdiv h)=1:=YY (by omega) h hh
 have dh:d.fdiv h=g.fdiv h * d.fdiv g:=by
  have e:=y4 (Int.dvd_trans hhg gd)
  have e2:h * (g.fdiv h * d.fdiv g)=d:=by rw [<- Int.mul_assoc,eg,ed]
  exact Int.eq_of_mul_eq_mul_left (by omega) (e.trans e2.symm)
 have ct1:Int.gcd t (b.fdiv g)=1:=by
  rw [ht]
  refine cop_add ?_
  rw [Int.gcd_comm]
  exact ZL (by rw [Int.gcd_comm]; exact ZD rx ⟨g,by rw [Int.mul_comm]; exact eb.symm⟩) cbd
 have ct2:Int.gcd t (d.fdiv g)=1:=by
  rw [ht,Int.add_comm]
  refine cop_add ?_
  rw [Int.gcd_comm]
  exact ZL (by rw [Int.gcd_comm]; exact ZD ry ⟨g,by rw [Int.mul_comm]; exact ed.symm⟩) (by rw [Int.gcd_comm]; exact cbd)
 have sub:∀ z,Int.gcd t z=1->Int.gcd (t.fdiv h) z=1:=fun z hz=>by
  rw [Int.gcd_comm] at hz ⊢
  exact ZD hz ⟨h,by rw [Int.mul_comm]; exact et.symm⟩
 rw [dh]
 refine q_is ?_ ?_ ?_
 ·exact Int.mul_pos b0 (Int.mul_pos k0 d0)
 ·exact ZL (sub _ ct1) (ZL ctg (sub _ ct2))
 ·rw [<- ea]
  have z:=Rat.divInt_mul_left (n:=t.fdiv h) (d:=b.fdiv g * (g.fdiv h * d.fdiv g)) (a:=g * h) (by have:=Int.mul_pos g0 h0; omega)
  rw [<- z]
  congr 1
  ·rw [Int.mul_assoc,et,ht,Int.mul_add]
   congr 1
   ·rw [<- Int.mul_assoc,Int.mul_comm g,Int.mul_assoc,ed]
   ·rw [<- Int.mul_assoc,Int.mul_comm g,Int.mul_assoc,eb]
  ·rw [show g * h * (b.fdiv g * (g.fdiv h * d.fdiv g))=(g * b.fdiv g) * ((h * g.fdiv h) * d.fdiv g) by grind,eb,eg,ed]
theorem q_times (x y:Rat) (f s:Int) (hf:f=((Int.gcd x.num ((y.den:Nat):Int):Nat):Int)) (hs:s=((Int.gcd y.num ((x.den:Nat):Int):Nat):Int)) :
  x.num.fdiv f * y.num.fdiv s=(x * y).num/\((x.den:Nat):Int).fdiv s * ((y.den:Nat):Int).fdiv f=(((x * y).den:Nat):Int):=by
 have hb:=YR x
 have hd:=YR y
 have rx:=q_red x
 have ry:=q_red y
 have ea:=q_mul x y
 revert hb hd rx ry hf hs ea
 generalize x.num=a
 generalize y.num=c
 generalize ((x.den:Nat):Int)=b
 generalize ((y.den:Nat):Int)=d
 intro hf hs hb hd rx ry ea
 have f0:0 < f:=by rw [hf]; exact gpos (by omega)
 have s0:0 < s:=by rw [hs]; exact gpos (by omega)
 have fa:f ∣ a:=by rw [hf]; exact Int.gcd_dvd_left ..
 have fd:f ∣ d:=by rw [hf]; exact Int.gcd_dvd_right ..
 have sc:s ∣ c:=by rw [hs]; exact Int.gcd_dvd_left ..
 have sb:s ∣ b:=by rw [hs]; exact Int.gcd_dvd_right ..
 have ea':=y4 fa
 have ed:=y4 fd
 have ec:=y4 sc
 have eb:=y4 sb
 have c1:Int.gcd (a.fdiv f) (d.fdiv f)=1:=YY (by omega) f hf
 have c2:Int.gcd (c.fdiv s) (b.fdiv s)=1:=YY (by omega) s hs
 have c3:Int.gcd (a.fdiv f) (b.fdiv s)=1:=by
  refine ZD (b:=b) ?_ (Yv sb)
  rw [Int.gcd_comm] at rx ⊢
  exact ZD rx (Yv fa)
 have c4:Int.gcd (c.fdiv s) (d.fdiv f)=1:=by
  refine ZD (b:=d) ?_ (Yv fd)
  rw [Int.gcd_comm] at ry ⊢
  exact ZD ry (Yv sc)
 refine q_is (Int.mul_pos (Zw hb s0 sb) (Zw hd f0 fd)) ?_ ?_
 ·rw [Int.gcd_comm]
  refine ZL ?_ ?_
  ·rw [Int.gcd_comm]; exact ZL c3 c1
  ·rw [Int.gcd_comm]; exact ZL c2 c4
 ·rw [<- ea]
  have z:=Rat.divInt_mul_left (n:=a.fdiv f * c.fdiv s) (d:=b.fdiv s * d.fdiv f) (a:=f * s) (by have:=Int.mul_pos f0 s0; omega)
  rw [<- z]
  congr 1
  ·rw [show f * s * (a.fdiv f * c.fdiv s)=(f * a.fdiv f) * (s * c.fdiv s) by grind,ea',ec]
  ·rw [show f * s * (b.fdiv s * d.fdiv f)=(s * b.fdiv s) * (f * d.fdiv f) by grind,eb,ed]
theorem q_dv (a b:Int):Rat.divInt a b=(a:Rat) / (b:Rat):=by
 have h:=q_div (a:Rat) (b:Rat)
 have e1:(a:Rat).num * (((b:Rat).den:Nat):Int)=a:=by show a * 1=a; omega
 have e2:(((a:Rat).den:Nat):Int) * (b:Rat).num=b:=by show 1 * b=b; omega
 rw [e1,e2] at h
 exact h
theorem q_intne {i:Int} (h:i≠0):(i:Rat)≠0:=fun e=>h (by have:=congrArg Rat.num e; exact this)
def mixQ (u v:Rat) (m w:Int):Rat:=u * Rat.divInt (m - w) (m+w)+v * Rat.divInt (2 * w) (m+w)
theorem Ys (u v:Rat) (m w:Int):mixQ u v m w=u * (((m:Rat) - w) / (m+w))+v * ((2 * w) / (m+w)):=by
 unfold mixQ
 rw [q_dv,q_dv]
 simp only [Rat.intCast_add,Rat.intCast_sub,Rat.intCast_mul]
 rfl
theorem q_le0 (x:Rat):x.num<=0↔¬ 0 < x:=by
 have h:=q_lt 0 x
 have e:(0:Rat).num * (x.den:Int) < x.num * ((0:Rat).den:Int)↔0 < x.num:=by
  show 0 * (x.den:Int) < x.num * 1↔0 < x.num
  omega
 rw [h,e]
 omega
end Kw
namespace Kw
open PySem PySem.Spec PyProof.Rows L2 PySem.Builtin PySem.Builtin.ObjectAttr PySem.Builtin.Getset_descriptor
section
variable {prog:Program} {w:World} {A:Around} {E:Value->Shared->Prop} {s:Shared} {K:PySem.W.Frag} {x C:Addr}
end
section
variable {X:Cx}
end
end Kw
namespace Kw
open PySem PySem.Spec PyProof.Rows L2
mutual
inductive Dp (K:PySem.W.Frag) (H:Hp):V->PyData->Prop
 |non:Dp K H .non .none
 |bl (b:Bool):Dp K H (.bl b) (.bool b)
 |int (i:Int):Dp K H (.int i) (.int i)
 |str (x:Str):Dp K H (.str x) (.str x)
 |lst {p:Addr} {xs:List V} {ds:List PyData}:SqL K H p xs->Dps K H xs ds->Dp K H (.ref p) (.list ds)
 |tup {p:Addr} {xs:List V} {ds:List PyData}:SqT K H p xs->Dps K H xs ds->Dp K H (.ref p) (.tuple ds)
inductive Dps (K:PySem.W.Frag) (H:Hp):List V->List PyData->Prop
 |nil:Dps K H [] []
 |cons {x:V} {xs:List V} {d:PyData} {ds:List PyData}:Dp K H x d->Dps K H xs ds->Dps K H (x::xs) (d::ds)
end
mutual
theorem Dp.same {K:PySem.W.Frag} {H H':Hp} (e:Same H H'):∀ {x:V} {d:PyData},Dp K H x d->Dp K H' x d
 |_,_,.non=>.non
 |_,_,.bl b=>.bl b
 |_,_,.int i=>.int i
 |_,_,.str x=>.str x
 |_,_,.lst h r=>.lst (e.seq h) (Dps.same e r)
 |_,_,.tup h r=>.tup (Same.tup e h) (Dps.same e r)
theorem Dps.same {K:PySem.W.Frag} {H H':Hp} (e:Same H H'):∀ {xs:List V} {ds:List PyData},Dps K H xs ds->Dps K H' xs ds
 |_,_,.nil=>.nil
 |_,_,.cons h r=>.cons (Dp.same e h) (Dps.same e r)
end
section
variable {X:Cx} {pins:List (Addr × Obj)} {σ:L2.St} {H:Hp} {s:Shared}
mutual
theorem Dp.reads (I:Inv X pins σ H s):∀ {x:V} {d:PyData} {u:Value},Dp X.K H x d->RelV x u->∃ as,Reads s.heap u d as
 |_,_,_,.non,r=>by cases r; exact ⟨_,.none⟩
 |_,_,_,.bl b,r=>by cases r; exact ⟨_,.bool b⟩
 |_,_,_,.int i,r=>by obtain ⟨t,rfl⟩:=r; exact ⟨_,.int i t⟩
 |_,_,_,.str x,r=>by obtain ⟨t,rfl⟩:=r; exact ⟨_,.str x t⟩
 |_,_,_,.lst h q,r=>by
  cases r
  obtain ⟨its,r',pl,hz⟩:=I.list h
  obtain ⟨as,ra⟩:=Dps.reads I q r'
  obtain ⟨o,n,ho,hc,_,hd⟩:=pl
  exact ⟨_,.list ho hc hd ra⟩
 |_,_,_,.tup h q,r=>by
  cases r
  obtain ⟨its,r',pl,hz⟩:=I.tuple h
  obtain ⟨as,ra⟩:=Dps.reads I q r'
  obtain ⟨o,ho,hc,n,hd⟩:=pl
  exact ⟨_,.tuple ho hc hd ra⟩
theorem Dps.reads (I:Inv X pins σ H s):∀ {xs:List V} {ds:List PyData} {us:List Value},Dps X.K H xs ds->Vals xs us->∃ as,ReadsAll s.heap us ds as
 |_,_,_,.nil,r=>by cases r; exact ⟨_,.nil⟩
 |_,_,_,.cons h q,r=>by
  cases r with
  |cons a b=>
   obtain ⟨as,ra⟩:=Dp.reads I h a
   obtain ⟨bs,rb⟩:=Dps.reads I q b
   exact ⟨_,.cons ra rb⟩
end
def rDp (K:PySem.W.Frag) (g:Bool->Bool):V->V->Hp->VK->Prop:=fun x y H Q=>∃ dx dy,Dp K H x dx/\Dp K H y dy/\dx.canLay0=true/\dy.canLay0=true/\min dx.depth dy.depth<=60/\Q (.bl (g (PyData.eqv dx dy))) H
theorem op_eqD {K:PySem.W.Frag} (hK:X.K=K) (hu:X.A.units+100 < cLine):OpR X (compareOp .Eq) (rDp K id):=by
 subst hK
 intro pins s σ H x y v u Q I rx ry h
 obtain ⟨dx,dy,hx,hy,cx,cy,dep,q⟩:=h
 obtain ⟨as,ra⟩:=hx.reads I rx
 obtain ⟨bs,rb⟩:=hy.reads I ry
 exact SeqAt.compareEq_reads ra rb cx cy (by omega) ⟨.bl (PyData.eqv dx dy),H,I,rfl,q⟩
theorem op_neD {K:PySem.W.Frag} (hK:X.K=K) (hu:X.A.units+100 < cLine):OpR X (compareOp .NotEq) (rDp K not):=by
 subst hK
 intro pins s σ H x y v u Q I rx ry h
 obtain ⟨dx,dy,hx,hy,cx,cy,dep,q⟩:=h
 obtain ⟨as,ra⟩:=hx.reads I rx
 obtain ⟨bs,rb⟩:=hy.reads I ry
 exact SeqAt.compareNe_reads ra rb cx cy (by omega) ⟨.bl (!PyData.eqv dx dy),H,I,rfl,q⟩
end
end Kw
namespace Kw
open PySem PySem.Spec PyProof.Rows L2
section
variable {X:Cx} {pos:Pos} {k v:Expr} {x:Str} {i:Int}
end
section
variable {X:Cx}
end
section
variable {K:PySem.W.Frag} {H H':Hp} {v:V} {t:Value}
end
section
variable {X:Cx} {k k':Nat} {x:Str} {ps:List Str} {sp:Sp} {E:XK} {p pos:Pos} {e:Expr} {es:List Expr} {t:TA} {dv:V}
end
end Kw
namespace Kw
end Kw
namespace Kw
open PySem PySem.Spec PyProof.Rows L2
theorem newO {H:Hp} {p:Addr} (hp:H p=none) (o:HO):∃ H',upd H p o=H'/\Same H H'/\H' p=some o:=⟨_,rfl,Zh hp o,zq⟩
end Kw
theorem Kw.u100 {k:Nat} {A:PySem.Around} (r:L2.Room k A):A.units+100 < PySem.cLine:=by have:=r.un; omega
namespace Kw
open PySem PySem.Spec PyProof.Rows L2
theorem iteFz {c:Bool} {A B:Prop} (h:c=false) (q:B):if c=true then A else B:=by
 subst h
 exact iteF q
theorem cut1 {s1 r:TS} {D:Ends} {σ:L2.St} {H:Hp} (P:L2.St->Hp->Prop) (h:∀ N:L2.St->Hp->Prop,(∀ σ' H',P σ' H'->N σ' H')->s1 {D with nx:=N} σ H) (rest:∀ σ' H',P σ' H'->r D σ' H') :
  tSeq s1 r D σ H:=h (r D) rest
def cxC (X:Cx) (N:List Str) (scope:Scope) (cl:List (Str × Addr)) (C:Addr) (s:Shared) (H:Hp) (fp:List Addr):Cx:=
 {X with N:=N,s₀:=s,H₀:=H,env:=compEnvC scope cl C X.env,outer:=X.stack,stack:=X.stack,ex:=fp,fn:=fun _=>false,pn:=[],xe:=fun _ _=>False}
section
variable {X:Cx} {pins:List (Addr × Obj)} {σ:L2.St} {H:Hp} {s:Shared} {N ns:List Str} {scope:Scope} {cl:List (Str × Addr)} {C:Addr} {fp:List Addr} {x:Str} {idx:List Nat}
theorem okC (I:Inv X pins σ H s) (f:∀ b∈fp,FpOk X pins H b) (lt:∀ b∈fp,b < s.heap.objs.size) (hC:s.heap.objs.size<=C) (hkind:scope.kind=.function) (hcl:∀ y c,cl.lookup y=some c->X.env.cells.lookup y=some c)
  (hfr:∀ y,((compEnvC scope cl C X.env).kindOf y=some .cell\/(compEnvC scope cl C X.env).kindOf y=some .free)->∃ c,cl.lookup y=some c):(cxC X N scope cl C s H fp).Ok where
 mod:=I.ok.mod
 kind:=hkind
 glob:=I.ok.glob
 blt:=I.ok.blt
 above:=hC
 inj:=fun x y c e1 e2=>I.ok.inj x y c (hcl _ _ e1) (hcl _ _ e2)
 has:=hfr
 cab:=fun _ _ h=>nomatch h
 hd:=I.ok.hd
 frames:=I.ok.frames
 stk:=.inl rfl
 exf:=fun b hb=>⟨Nat.ne_of_lt (Nat.lt_of_lt_of_le (lt b hb) hC),fun x c e=>(f b hb).2.2.2.2.1 x c (hcl _ _ e)⟩
 bs:=I.bs
 bsz:=Nat.le_trans I.ok.bsz I.sz
 noex:=fun b o e hb=>by
  rcases (f b hb).2.2.2.1 with z|z
  ·exact I.ok.noex b o e z
  ·exact absurd (Nat.lt_of_lt_of_le (Heap.lt_size e) (Nat.le_trans I.ok.bsz z)) (Nat.lt_irrefl _)
 exfs:=fun b hb hs=>by
  rcases List.mem_cons.mp (I.stkSub b hs) with z|z
  ·exact (f b hb).2.1 z
  ·exact (f b hb).2.2.1 z
 funs:=I.stack
 frf:=I.stkFree
def Capt (X:Cx) (scope:Scope) (cl:List (Str × Addr)) (ns:List Str) (idx:List Nat):Prop:=
 idx.length=ns.length/\∀ (k:Nat) (y:Str),ns[k]?=some y->∃ j c,idx[k]?=some j/\X.N[j]?=some y/\X.env.kindOf y=some .cell/\X.env.cells.lookup y=some c/\cl.lookup y=some c/\((relabel scope X.env).names.lookup y=some .cell\/(relabel scope X.env).names.lookup y=some .free)
def stIn (v:Option V) (idx:List Nat) (σ:L2.St):L2.St:=v::idx.map fun j=>(σ[j]?).join
theorem invC {D:Addr} {h1:Heap} {t:Nat} {o:Obj} {mC:Str->Option Value} (I:Inv X pins σ H s) (ok:(cxC X (x::ns) scope cl C s H fp).Ok) (cap:Capt X scope cl ns idx) (hcl:∀ y c,cl.lookup y=some c->X.env.cells.lookup y=some c)
  (keep:∀ b u,s.heap.get? b=some u->h1.get? b=some u) (hC:s.heap.objs.size<=C) (hns:h1.Ns C mC) (hD:h1.get? D=some o) (hDs:s.heap.objs.size<=D) (hDC:D≠C) (hod:∀ v,o.data≠.cell v) (hx:(relabel scope X.env).names.lookup x=some .local) :
  Inv (cxC X (x::ns) scope cl C s H fp) [(D,o)] (stIn none idx σ) H {s with heap:=h1,toks:=t}:=by
 have cellK:∀ y c,cl.lookup y=some c->∀ v,s.heap.IsCell c v->h1.IsCell c v:=fun y c e v ⟨o,ho,hd⟩=>⟨o,keep _ _ ho,hd⟩
 refine ⟨ok,rfl,I.bare,Un.kept keep,⟨mC,hns,fun i y v e1 e2 e3=>?_⟩,fun y c e=>?_,I.hok.fresh hC,fun y c e=>I.freeC y c (hcl y c e),fun p hp=>?_,I.hok.kept keep,?_⟩
 ·cases i with
  |zero=>cases e2
  |succ k=>
   have e1':ns[k]?=some y:=e1
   obtain ⟨j,c,h1',h2,h3,h4,h5,h6⟩:=cap.2 k y e1'
   have e2':(idx.map fun j=>(σ[j]?).join)[k]?=some (some v):=e2
   rw [List.getElem?_map,h1'] at e2'
   have e4:(σ[j]?).join=some v:=Option.some.inj e2'
   have e5:σ[j]?=some (some v):=by
    cases q:σ[j]? with
    |none=>rw [q] at e4; cases e4
    |some z=>rw [q] at e4; exact congrArg some e4
   obtain ⟨m,hn,hl⟩:=I.loc
   obtain ⟨u,r,lk⟩:=hl j y v h2 e5 (.inr (.inl h3))
   refine ⟨u,r,.inr ⟨h6,c,h5,?_⟩⟩
   rcases lk with ⟨z,_⟩|⟨_,c',z,ic⟩
   ·rw [h3] at z; cases z
   ·rw [h4] at z; cases z
    exact cellK y c h5 _ ic
 ·obtain ⟨v,ic⟩:=I.cell y c (hcl y c e)
  exact ⟨v,cellK y c e v ic⟩
 ·have e:p=(D,o):=by simpa [cxC] using hp
  subst e
  refine ⟨hD,I.hok.fresh hDs,hDC,fun hs=>?_,hod⟩
  obtain ⟨_,o',ho',_⟩:=I.stack.mem hs
  exact absurd (Heap.lt_size ho') (Nat.not_lt.mpr hDs)
 ·unfold stIn
  rw [List.length_cons,List.length_map,cap.1]
  rfl
end
abbrev NoE:Value->Shared->Prop:=fun _ _=>False
abbrev testsOf (ifs:List Expr) (env:Env):Sem Bool:=forIn ifs true fun c r=>if r=true then do let ok <- isTrue c env (eval c env); pure (ForInStep.yield ok) else pure (ForInStep.yield r)
def PTs (X:Cx) (ifs:List Expr) (t:TT):Prop:=
 ∀ (pins:List (Addr × Obj)) (s:Shared) (σ:L2.St) (H:Hp) (Q:Bool->Hp->Prop),Inv X pins σ H s->t σ H Q->wpAny (model X.prog X.w) X.A (testsOf ifs X.env) (TP X pins σ Q) X.xe s
def ttNil:TT:=fun _ H Q=>Q true H
theorem pts_nil {X:Cx}:PTs X [] ttNil:=fun _ _ _ H _ I h=>wpAny_tests_nil ⟨H,I,h⟩
theorem pts_one {X:Cx} {c:Expr} {t:TT} (h:PT X c t):PTs X [c] t:=fun pins s σ H Q I q=>wpAny_tests_one (h pins s σ H Q I q)
theorem lc_loop {prog:Program} {w:World} {A:Around} {R:Result->Shared->Prop} {s:Shared} {elt target iter:Expr} {ifs:List Expr} {scope:Scope} {pos:Pos} {it acc:Value} {env:Env} (Z:Nat->Shared->Prop)
  (turn:∀ n z,Z n z->wpAny (model prog w) A (pyNext it) (fun r z1=>match r with
   |none=>R (.ok .next) z1
   |some v=>wpAny (model prog w) A (letOwnedTupleGo target it v) (fun _ z2=>wpAny (model prog w) A (assign target env v) (fun _ z3=>wpAny (model prog w) A (testsOf ifs env) (fun ok z4=>if ok=true then
     wpAny (model prog w) A (eval elt env) (fun y z5=>wpAny (model prog w) A (call (.builtin "list.append") [acc,y]) (fun _ z6=>∃ m,m < n/\Z m z6) NoE z5) NoE z4 else ∃ m,m < n/\Z m z4) NoE z3) NoE z2) NoE z1) NoE z)
  (n:Nat) (h:Z n s):codeAny (model prog w) A (.compLoop (.ListComp elt [⟨target,iter,ifs,0⟩] scope pos) 0 it acc env) R s:=by
 refine codeAny_loop rfl Z (fun n z hZ=>?_) n h
 show wpAny _ A ((compTurn (.ListComp elt [⟨target,iter,ifs,0⟩] scope pos) 0 it acc env).onRaise (fun q=>do noteFrame q env; theTreesLotGoes q)) _ _ z
 refine wpAny_noted ?_
 rw [compTurn_list]
 refine wpAny_bind (wpAny_standAt (wpAny_bind (wpAny_mono (turn n z hZ) (fun r z1 k1=>?_) fun _ _ q=>q.elim)))
 cases r with
 |none=>exact wpAny_pure k1
 |some v=>
  refine wpAny_bind (wpAny_mono k1 (fun _ z2 k2=>?_) fun _ _ q=>q.elim)
  refine wpAny_bind (wpAny_mono k2 (fun _ z3 k3=>?_) fun _ _ q=>q.elim)
  refine wpAny_bind (wpAny_mono k3 (fun ok z4 k4=>?_) fun _ _ q=>q.elim)
  cases ok with
  |false=>exact wpAny_pure ⟨rfl,k4⟩
  |true=>
   refine wpAny_bind (wpAny_bind (wpAny_mono (show wpAny _ _ _ _ _ _ from k4) (fun y z5 k5=>?_) fun _ _ q=>q.elim))
   exact wpAny_bind (wpAny_mono k5 (fun _ z6 k6=>wpAny_pure (wpAny_pure ⟨rfl,k6⟩)) fun _ _ q=>q.elim)
def Zl (J:It) (idx:List Nat) (te:TE) (σ:L2.St) (Q:VK) (H1:Hp):Prop:=∃ W:Nat->Nat->List V->Hp->Prop,(∃ m,W 0 m [] H1)/\∀ i m ys H,W i m ys H->ys.length<=sizeLine/\
 ((J.stop i H/\∀ p,H p=none->Q (.ref p) (upd H p (.lst ys)))\/(J.go i H/\∀ y H',J.yld i H y H'->te (stIn (some y) idx σ) H' fun v H2=>∃ m',m' < m/\W (i+1) m' (ys++[v]) H2))
def tLc (wi:TI) (idx:List Nat) (te:TE):TE:=fun σ H Q=>wi σ H fun J H1=>Zl J idx te σ Q H1
def ZE (J:It) (idx:List Nat) (tt:TT) (te:TE) (σ:L2.St) (Q:VK) (H1:Hp):Prop:=∃ W:Nat->Nat->List V->Hp->Prop,(∃ m,W 0 m [] H1)/\∀ i m ys H,W i m ys H->ys.length<=sizeLine/\
 ((J.stop i H/\∀ p,H p=none->Q (.ref p) (upd H p (.lst ys)))\/(J.go i H/\∀ y H',J.yld i H y H'->tt (stIn (some y) idx σ) H' fun b H3=>if b=true then te (stIn (some y) idx σ) H3 fun v H2=>∃ m',m' < m/\W (i+1) m' (ys++[v]) H2
  else ∃ m',m' < m/\W (i+1) m' ys H3))
def tLcT (wi:TI) (idx:List Nat) (tt:TT) (te:TE):TE:=fun σ H Q=>wi σ H fun J H1=>ZE J idx tt te σ Q H1
theorem Zl.toT {J:It} {idx:List Nat} {te:TE} {σ:L2.St} {Q:VK} {H1:Hp} (h:Zl J idx te σ Q H1):ZE J idx ttNil te σ Q H1:=by
 obtain ⟨W,w0,turn⟩:=h
 refine ⟨W,w0,fun i m ys H w=>?_⟩
 obtain ⟨hz,h⟩:=turn i m ys H w
 refine ⟨hz,h.imp id fun h=>⟨h.1,fun y H' yl=>?_⟩⟩
 show (if true=true then te (stIn (some y) idx σ) H' (fun v H2=>∃ m',m' < m/\W (i+1) m' (ys++[v]) H2) else ∃ m',m' < m/\W (i+1) m' ys H')
 rw [if_pos rfl]
 exact h.2 y H' yl
section
variable {X:Cx} {elt iter:Expr} {ifs:List Expr} {x:Str} {px pos:Pos} {scope:Scope} {cl:List (Str × Addr)} {wi:TI} {tt:TT} {te:TE} {ns:List Str} {idx:List Nat}
structure LcEnd (X:Cx) (fp:List Addr) (H2 H4:Hp) (s2 s5:Shared) (C D:Addr) (ys:List V):Prop where
 dn:D=s2.heap.objs.size
 cn:s2.heap.objs.size<=C
 dc:D≠C
 un:Un (frs X.stack) fp H2 H4 s2.heap s5.heap
 hok:HOk X.prog X.w H4 s5.heap
 cf:H4 C=none
 df:H4 D=none
 os:s5.os=s2.os
 bare:AllBare s5.gens
 ns:∃ m,s5.heap.Ns C m
 obj:∃ us,Vals ys us/\s5.heap.get? D=some (LCg.lst us)
 len:ys.length<=sizeLine
theorem JX (hc:X.calm=true) (hi:PI X (.Name x px) iter wi) (hclos:closureFor scope X.env=pure cl) (hcell:∀ y∈scope.names,y.2≠.cell) (hkind:scope.kind=.function)
  (hnames:∀ y∈scope.names,y.2=.local->scope.names.lookup y.1=some .local) (hx:scope.names.lookup x=some .local) (nd:(x::ns).Nodup) (cap:Capt X scope cl ns idx)
  (hcl:∀ y c,cl.lookup y=some c->X.env.cells.lookup y=some c) (hfr:∀ y,((relabel scope X.env).names.lookup y=some .cell\/(relabel scope X.env).names.lookup y=some .free)->∃ c,cl.lookup y=some c)
  (htt:∀ (C:Addr) (s:Shared) (H:Hp) (fp:List Addr),PTs (cxC X (x::ns) scope cl C s H fp) ifs tt) (hel:∀ (C:Addr) (s:Shared) (H:Hp) (fp:List Addr),PE (cxC X (x::ns) scope cl C s H fp) elt te)
  {pins:List (Addr × Obj)} {σ:L2.St} {Q:VK} {itv:Value} {s2:Shared} {E:Value->Shared->Prop} {RR:Value->Addr->Result->Shared->Prop} (h2:PIE X pins σ (.Name x px) (fun J H1=>ZE J idx tt te σ Q H1) itv s2)
  (hRR:∀ fp H2 H4 s5 C D ys,Inv X pins σ H2 s2->(∀ b∈fp,FpOk X pins H2 b)->LcEnd X fp H2 H4 s2 s5 C D ys->Q (.ref D) (upd H4 D (.lst ys))->RR (.ref D) C (.ok .next) s5) :
  wpAny (model X.prog X.w) X.A (newList []) (fun acc s3=>wpAny (model X.prog X.w) X.A (newFunctionEnv scope X.env.globals cl [] X.env.qual none .none (some X.env)) (fun cenv s4=>
   codeAny (model X.prog X.w) X.A (.compStart (.ListComp elt [⟨.Name x px,iter,ifs,0⟩] scope pos) 0 itv acc {cenv with scope:=relabel scope X.env}) (RR acc cenv.locals) s4) E s3) E s2:=by
 obtain ⟨it,fp,tn,J,H2,e,I2,T,st2,f2,W,⟨m0,w0⟩,turn⟩:=h2
 subst e
 refine wpAny_newObj_type (wpAny_newFunctionEnv hcell (by intro y hy; simp at hy) (fun h1 hns1 hsb1=>?_) hkind)
 dsimp only at hns1 hsb1 ⊢
 generalize hH2:s2.heap.push {cls:=.type "list",dict:=none,data:=.seq ([]:List Value).toArray}=g2 at hns1 hsb1 ⊢
 have hC:g2.objs.size=s2.heap.objs.size+1:=by rw [<- hH2,Heap.size_push]
 have hDC:s2.heap.objs.size≠g2.objs.size:=by rw [hC]; exact Nat.ne_of_lt (Nat.lt_succ_self _)
 have hCle:s2.heap.objs.size<=g2.objs.size:=by rw [hC]; exact Nat.le_succ _
 have keep1:∀ b o,s2.heap.get? b=some o->h1.get? b=some o:=fun b o e=>hsb1.extBut b o (Nat.ne_of_lt (Nat.lt_of_lt_of_le (Heap.lt_size e) hCle)) (Heap.get?_push_of_some _ (hH2▸Heap.get?_push_of_some _ e))
 have hacc:h1.get? s2.heap.objs.size=some {cls:=.type "list",data:=.seq ([]:List Value).toArray 0}:=hsb1.extBut _ _ hDC (Heap.get?_push_of_some _ (hH2▸Heap.get?_push_size _ rfl))
 have lt:∀ b∈fp,b < s2.heap.objs.size:=fun b hb=>by
  obtain ⟨o,e,_⟩:=T.obj _ _ st2 b hb
  exact Heap.lt_size e
 have hxr:(relabel scope X.env).names.lookup x=some .local:=lookup_relabel_local hx
 have ok:=okC (N:=x::ns) (scope:=scope) (cl:=cl) (C:=g2.objs.size) I2 f2 lt hCle hkind hcl hfr
 have I3:=invC (D:=s2.heap.objs.size) (t:=s2.toks+([]:List (Str × Value)).length) I2 ok cap hcl keep1 hCle hns1 hacc (Nat.le_refl _) hDC (fun v z=>by cases z) hxr
 have fC:∀ {H':Hp} {pl:List (Addr × Obj)},(∀ p∈pl,p.1=s2.heap.objs.size)->(∀ b∈fp,H' b=none)->∀ b∈fp,FpOk (cxC X (x::ns) scope cl g2.objs.size s2 H2 fp) pl H' b:=fun {H' pl} hpl hn b hb=>
  ⟨hn b hb,(ok.exf b hb).1,fun z=>ok.exfs b hb z,.inl hb,(ok.exf b hb).2,fun p hp z=>by
   have q:=hpl p (by simpa [cxC] using hp)
   have:=lt b hb
   rw [<- z,q] at this
   exact Nat.lt_irrefl _ this⟩
 have lnc:∀ us:List Value,∀ v,(LCg.lst us).data≠.cell v:=fun us v z=>by cases z
 have loop:∀ s3:Shared,s3={s2 with heap:=h1,toks:=s2.toks+([]:List (Str × Value)).length}->
   codeAny (model X.prog X.w) X.A (.compLoop (.ListComp elt [⟨.Name x px,iter,ifs,0⟩] scope pos) 0 (.ref it) (.ref s2.heap.objs.size) (compEnvC scope cl g2.objs.size X.env))
    (RR (.ref s2.heap.objs.size) g2.objs.size) s3:=by
  rintro s3 rfl
  refine lc_loop (fun n s'=>∃ i ys us r H',Inv (cxC X (x::ns) scope cl g2.objs.size s2 H2 fp) [(s2.heap.objs.size,LCg.lst us)] (stIn r idx σ) H' s'/\tn i s'.heap/\(∀ b∈fp,H' b=none)/\Vals ys us/\W i n ys H') ?_ m0
   ⟨0,[],[],none,H2,I3,T.keep _ _ _ st2 fun b _ o e=>keep1 b o e,fun b hb=>(f2 b hb).1,.nil,w0⟩
  rintro n s4 ⟨i,ys,us,r,H4,I4,st4,fr4,vs4,w4⟩
  obtain ⟨hz,⟨stop,qn⟩|⟨go,step⟩⟩:=turn i n ys H4 w4
  ·refine thn (T.done (cxC X (x::ns) scope cl g2.objs.size s2 H2 fp) rfl rfl rfl hc i _ s4 _ H4 NoE I4 (fC (fun p hp=>by rw [List.mem_singleton.mp hp]) fr4) st4 stop) fun r5 s5 zz=>?_
   obtain ⟨hr5,I5⟩:=zz
   subst hr5
   obtain ⟨mC,hnC,_⟩:=I5.loc
   obtain ⟨pD1,pD2,_⟩:=I5.pin (s2.heap.objs.size,LCg.lst us) (List.mem_append_right _ (List.mem_singleton.mpr rfl))
   exact hRR fp H2 H4 s5 g2.objs.size s2.heap.objs.size ys I2 f2 ⟨rfl,hCle,hDC,I5.base,I5.hok,I5.free,pD2,I5.os,I5.bare,⟨mC,hnC⟩,⟨us,vs4,pD1⟩,hz⟩ (qn _ pD2)
  ·refine thn (T.item (cxC X (x::ns) scope cl g2.objs.size s2 H2 fp) rfl rfl rfl hc i _ s4 _ H4 NoE I4 (fC (fun p hp=>by rw [List.mem_singleton.mp hp]) fr4) st4 go) fun r5 s5 zz=>?_
   obtain ⟨u,hr5,k5⟩:=zz
   subst hr5
   refine thn k5 fun _ s6 zz=>?_
   obtain ⟨y,H6,I6,r6,y6,st6,fr6⟩:=zz
   have I6':=I6.pinned (fC (fun p hp=>by rw [List.mem_singleton.mp hp]) fr6) (T.obj _ _ st6)
   have G:=za (X:=cxC X (x::ns) scope cl g2.objs.size s2 H2 fp) (pos:=px) (i:=0) (x:=x) nd rfl (.inl hxr) (.inr hxr)
   refine thn (G _ s6 _ H6 y u (fun σ' H'=>σ'=stIn (some y) idx σ/\H'=H6) I6' r6 ⟨rfl,rfl⟩) fun _ s7 zz=>?_
   obtain ⟨σ7,H7,I7,e7,eH⟩:=zz
   subst e7 eH
   refine thn (htt g2.objs.size s2 H2 fp _ s7 _ _ _ I7 (step y _ y6)) fun ok s71 zz=>?_
   obtain ⟨H71,I71,k71⟩:=zz
   cases ok with
   |false=>
    obtain ⟨m',lm,w8⟩:=(show ∃ m',m' < n/\W (i+1) m' ys H71 from k71)
    have kf:∀ b∈fp,∀ o,s6.heap.get? b=some o->s71.heap.get? b=some o/\H71 b=none:=fun b hb o e=>by
     have q:=I71.pin (b,o) (List.mem_append_right _ (List.mem_append_right _ (jC hb e)))
     exact ⟨q.1,q.2.1⟩
    obtain ⟨pD1,pD2,pD3,pD4,_⟩:=I71.pin (s2.heap.objs.size,LCg.lst us) (by simp [cxC])
    refine ⟨m',lm,i+1,ys,us,some y,H71,I71.pins_of fun p hp=>?_,?_,fun b hb=>?_,vs4,w8⟩
    ·rw [List.mem_singleton.mp hp]
     exact ⟨pD1,pD2,pD3,pD4,lnc _⟩
    ·exact T.keep _ _ _ st6 fun b hb o e=>(kf b hb o e).1
    ·obtain ⟨o,e,_⟩:=T.obj _ _ st6 b hb
     exact (kf b hb o e).2
   |true=>
   refine thn (hel g2.objs.size s2 H2 fp _ s71 _ _ _ I71 k71) fun y8 s8 zz=>?_
   obtain ⟨v,H8,I8,r8,m',lm,w8⟩:=zz
   obtain ⟨pD1,pD2,pD3,pD4,_⟩:=I8.pin (s2.heap.objs.size,LCg.lst us) (by simp [cxC])
   have kf:∀ b∈fp,∀ o,s6.heap.get? b=some o->s8.heap.get? b=some o/\H8 b=none:=fun b hb o e=>by
    have q:=I8.pin (b,o) (List.mem_append_right _ (List.mem_append_right _ (jC hb e)))
    exact ⟨q.1,q.2.1⟩
   refine append_at (hsz:=by show us.toArray.size<=sizeLine; rw [List.size_toArray,<- vs4.length]; exact hz) pD1 fun h9 sb9 hD9=>?_
   have I8':Inv (cxC X (x::ns) scope cl g2.objs.size s2 H2 fp) [] (stIn (some y) idx σ) H8 s8:=I8.pins_of fun p hp=>nomatch hp
   have I9:=I8'.turned (it:=s2.heap.objs.size) (h':=h9) (t':=s8.toks) (fun b o hb e=>(sb9.2 b hb).trans e) pD2 pD3 (.inr (Nat.le_refl _)) (fun y c e z=>by
     obtain ⟨v,q⟩:=I2.cell y c (hcl y c e)
     exact absurd q.lt (by rw [z]; exact Nat.lt_irrefl _)) (fun p hp=>by simp [cxC] at hp)
   refine ⟨m',lm,i+1,ys++[v],us++[y8],some y,H8,I9.pins_of fun p hp=>?_,?_,fun b hb=>?_,vs4.append (.cons r8 .nil),w8⟩
   ·rw [List.mem_singleton.mp hp]
    exact ⟨hD9.trans (congrArg some (LCg.lst_snoc us y8)),pD2,pD3,pD4,lnc _⟩
   ·exact T.keep _ _ _ st6 fun b hb o e=>(sb9.2 b (Nat.ne_of_lt (lt b hb))).trans (kf b hb o e).1
   ·obtain ⟨o,e,_⟩:=T.obj _ _ st6 b hb
    exact (kf b hb o e).2
 exact codeAny_compStart_list (loop _ rfl) (T.self _ 0 _ _ _ (T.keep _ _ _ st2 fun b _ o e=>keep1 b o e) (loop _ rfl))
theorem LcEnd.inv {fp:List Addr} {H2 H4:Hp} {s2 s5:Shared} {C D:Addr} {ys:List V} {pins:List (Addr × Obj)} {σ:L2.St} {h':Heap} (L:LcEnd X fp H2 H4 s2 s5 C D ys) (I2:Inv X pins σ H2 s2) (f2:∀ b∈fp,FpOk X pins H2 b) (sb:Heap.SameBut C s5.heap h') :
  Inv X pins σ (upd H4 D (.lst ys)) {s5 with heap:=h'}:=by
 obtain ⟨rfl,hCle,hDC,U,hok,cf,pD2,eo,bare,⟨mC,hnC⟩,⟨us,vs4,pD1⟩,hz⟩:=L
 have neC:∀ b o,s2.heap.get? b=some o->b≠C:=fun b o e=>Nat.ne_of_lt (Nat.lt_of_lt_of_le (Heap.lt_size e) hCle)
 have U':Un (frs X.stack) fp H2 H4 s2.heap h':=⟨fun b o e n hb hx=>(sb.2 b (neC b o e)).trans (U.keep b o e n hb hx),fun b o e n hb hx=>by
   obtain ⟨sl,q⟩:=U.slot b o e n hb hx
   exact ⟨sl,(sb.2 b (neC b o e)).trans q⟩,U.free,fun b o e hx=>by
   obtain ⟨o',q⟩:=U.there b o e hx
   exact ⟨o',(sb.2 b (neC b o e)).trans q⟩,U.tups,U.frzs,U.tbls⟩
 have hok':HOk X.prog X.w H4 h':=fun a o e=>by
  refine (hok a o e).stay (fun b u hb q=>(sb.2 b ?_).trans q) (fun _ z=>z) fun _ _ z=>z
  rintro rfl
  rcases hb with hb|hb
  ·rw [<- hb,cf] at e; cases e
  ·rw [cf] at hb; cases hb
 have I6:=I2.call (ch:=fp) (h':=h') (g':=s5.gens) (t':=s5.toks) (d':=s5.drawn) U' hok' bare fun b hb=>⟨(f2 b hb).2.2.2.1,(f2 b hb).2.1,(f2 b hb).2.2.2.2.1,(f2 b hb).2.2.2.2.2⟩
 have I7:=Inv.adopt (x:=s2.heap.objs.size) (o:=.lst ys) (fun y c e z=>by
   obtain ⟨v,q⟩:=I2.cell y c e
   exact absurd q.lt (by rw [z]; exact Nat.lt_irrefl _)) I6 (Heap.get?_none_of_le I2.sz) pD2 (Nat.ne_of_gt I2.lt) (fun p hp z=>by
   have:=Heap.lt_size (I2.pin p hp).1
   rw [z] at this
   exact Nat.lt_irrefl _ this) ⟨hz,us,us.length,vs4,(sb.2 _ hDC).trans pD1⟩
 rw [<- eo] at I7
 exact I7
theorem pie_toT {pins:List (Addr × Obj)} {σ:L2.St} {tg:Expr} {Q:VK} {itv:Value} {s2:Shared} (h:PIE X pins σ tg (fun J H1=>Zl J idx te σ Q H1) itv s2):PIE X pins σ tg (fun J H1=>ZE J idx ttNil te σ Q H1) itv s2:=by
 obtain ⟨it,fp,tn,J,H',a,b,c,d,e,q⟩:=h
 exact ⟨it,fp,tn,J,H',a,b,c,d,e,q.toT⟩
theorem pe_lcT (hc:X.calm=true) (hi:PI X (.Name x px) iter wi) (hclos:closureFor scope X.env=pure cl) (hcell:∀ y∈scope.names,y.2≠.cell) (hkind:scope.kind=.function)
  (hnames:∀ y∈scope.names,y.2=.local->scope.names.lookup y.1=some .local) (hx:scope.names.lookup x=some .local) (nd:(x::ns).Nodup) (cap:Capt X scope cl ns idx)
  (hcl:∀ y c,cl.lookup y=some c->X.env.cells.lookup y=some c) (hfr:∀ y,((relabel scope X.env).names.lookup y=some .cell\/(relabel scope X.env).names.lookup y=some .free)->∃ c,cl.lookup y=some c)
  (htt:∀ (C:Addr) (s:Shared) (H:Hp) (fp:List Addr),PTs (cxC X (x::ns) scope cl C s H fp) ifs tt) (hel:∀ (C:Addr) (s:Shared) (H:Hp) (fp:List Addr),PE (cxC X (x::ns) scope cl C s H fp) elt te) (hs:∀ v,foldedSetIterable iter X.env v=pure v:=by intro _; rfl) :
  PE X (.ListComp elt [⟨.Name x px,iter,ifs,0⟩] scope pos) (tLcT wi idx tt te):=by
 intro pins s σ H Q I h
 rw [eval_ListComp]
 refine wpAny_comprehension_free (use:=none) rfl hs hclos hkind hnames (thn (hi pins s σ H _ I h) fun v s1 h1=>thn h1 fun itv s2 h2=>?_)
 refine JX hc hi hclos hcell hkind hnames hx nd cap hcl hfr htt hel (RR:=fun acc C=>compPost (model X.prog X.w) X.A X.xe none (EP X pins σ Q) acc C) h2 fun fp H2 H4 s5 C D ys I2 f2 L q=>?_
 obtain ⟨mC,hnC⟩:=L.ns
 exact ⟨mC,hnC,fun h' sb=>⟨.ref D,_,L.inv I2 f2 sb,rfl,q⟩⟩
theorem ps_lcT {j:Nat} {y:Str} {py spos:Pos} (hN:X.N.Nodup) (hj:X.N[j]?=some y) (hy:X.env.scope.names.lookup y=some .local) (hsw:swapsWith (.ListComp elt [⟨.Name x px,iter,ifs,0⟩] scope pos) (some (.Name y py)) spos.line X.env=pure true)
  (hc:X.calm=true) (hi:PI X (.Name x px) iter wi) (hclos:closureFor scope X.env=pure cl) (hcell:∀ y∈scope.names,y.2≠.cell) (hkind:scope.kind=.function)
  (hnames:∀ y∈scope.names,y.2=.local->scope.names.lookup y.1=some .local) (hx:scope.names.lookup x=some .local) (nd:(x::ns).Nodup) (cap:Capt X scope cl ns idx)
  (hcl:∀ y c,cl.lookup y=some c->X.env.cells.lookup y=some c) (hfr:∀ y,((relabel scope X.env).names.lookup y=some .cell\/(relabel scope X.env).names.lookup y=some .free)->∃ c,cl.lookup y=some c)
  (htt:∀ (C:Addr) (s:Shared) (H:Hp) (fp:List Addr),PTs (cxC X (x::ns) scope cl C s H fp) ifs tt) (hel:∀ (C:Addr) (s:Shared) (H:Hp) (fp:List Addr),PE (cxC X (x::ns) scope cl C s H fp) elt te) (hs:∀ v,foldedSetIterable iter X.env v=pure v) :
  PS X (.Assign [.Name y py] (.ListComp elt [⟨.Name x px,iter,ifs,0⟩] scope pos) spos) (tAsg (tLcT wi idx tt te) (gName j)):=by
 intro pins s σ H D I h
 rw [exec_Assign_Name_used _ _ _ _ hsw]
 refine wpAny_bind (wpAny_standAt (wpAny_bind ?_))
 show wpAny _ _ (do let _ <- comprehension (.ListComp elt [⟨.Name x px,iter,ifs,0⟩] scope pos) scope X.env _ (newList []) false (eval iter X.env) (some (assign (.Name y py) X.env))) _ _ s
 refine wpAny_bind (wpAny_mono (wpAny_comprehension_free (use:=some (assign (.Name y py) X.env)) (Q:=fun _ s'=>SP X pins D .next s') rfl hs hclos hkind hnames
  (thn (hi pins s σ H _ I h) fun v s1 h1=>thn h1 fun itv s2 h2=>?_)) (fun _ s' hq=>wpAny_pure (wpAny_pure hq)) fun _ _ e=>e)
 refine JX hc hi hclos hcell hkind hnames hx nd cap hcl hfr htt hel (RR:=fun acc C=>compPost (model X.prog X.w) X.A X.xe (some (assign (.Name y py) X.env)) (fun _ s'=>SP X pins D .next s') acc C) h2 fun fp H2 H4 s5 C Da ys I2 f2 L q=>?_
 have I7:=L.inv I2 f2 (h':=s5.heap) ⟨rfl,fun _ _=>rfl⟩
 show wpAny _ _ (assign (.Name y py) X.env (.ref Da)) _ _ s5
 have cL:C≠X.env.locals:=Nat.ne_of_gt (Nat.lt_of_lt_of_le I2.lt L.cn)
 have cc:∀ z c,X.env.cells.lookup z=some c->c≠C:=fun z c e=>by
  obtain ⟨v,k⟩:=I2.cell z c e
  exact Nat.ne_of_lt (Nat.lt_of_lt_of_le k.lt L.cn)
 refine wpAny_assign_Name (Z6 I7 hN hj (.inl hy) (v:=.ref Da) rfl (fun s8 I8 sm=>?_) (.inr hy))
 obtain ⟨a,sba,ha⟩:=sm
 have ac:C≠a:=by
  rcases ha with rfl|ha
  ·exact cL
  ·exact Ne.symm (cc _ _ ha)
 obtain ⟨mC,o,es,ep,e1,e2⟩:=L.ns
 refine ⟨mC,⟨o,es,ep,(sba.2 C ac).trans e1,e2⟩,fun h' sb=>⟨_,_,?_,q⟩⟩
 refine I8.turned (it:=C) (h':=h') (t':=s8.toks) (fun b u nb e=>(sb.2 b nb).trans e) ?_ cL (.inr (Nat.le_trans I2.sz L.cn)) cc fun p hp z=>?_
 ·rw [zX (Ne.symm L.dc)]
  exact L.cf
 ·have:=Heap.lt_size (I2.pin p hp).1
  rw [z] at this
  exact absurd this (Nat.not_lt.mpr L.cn)
theorem Jy (hc:X.calm=true) (hi:PI X (.Name x px) iter wi) (hclos:closureFor scope X.env=pure cl) (hcell:∀ y∈scope.names,y.2≠.cell) (hkind:scope.kind=.function)
  (hnames:∀ y∈scope.names,y.2=.local->scope.names.lookup y.1=some .local) (hx:scope.names.lookup x=some .local) (nd:(x::ns).Nodup) (cap:Capt X scope cl ns idx)
  (hcl:∀ y c,cl.lookup y=some c->X.env.cells.lookup y=some c) (hfr:∀ y,((relabel scope X.env).names.lookup y=some .cell\/(relabel scope X.env).names.lookup y=some .free)->∃ c,cl.lookup y=some c)
  (hel:∀ (C:Addr) (s:Shared) (H:Hp) (fp:List Addr),PE (cxC X (x::ns) scope cl C s H fp) elt te) (hs:∀ v,foldedSetIterable iter X.env v=pure v:=by intro _; rfl) :
  PE X (.ListComp elt [⟨.Name x px,iter,[],0⟩] scope pos) (tLc wi idx te):=by
 intro pins s σ H Q I h
 rw [eval_ListComp]
 refine wpAny_comprehension_free (use:=none) rfl hs hclos hkind hnames (thn (hi pins s σ H _ I h) fun v s1 h1=>thn h1 fun itv s2 h2=>?_)
 refine JX (tt:=ttNil) hc hi hclos hcell hkind hnames hx nd cap hcl hfr (fun _ _ _ _=>pts_nil) hel (RR:=fun acc C=>compPost (model X.prog X.w) X.A X.xe none (EP X pins σ Q) acc C) (pie_toT h2) fun fp H2 H4 s5 C D ys I2 f2 L q=>?_
 obtain ⟨mC,hnC⟩:=L.ns
 exact ⟨mC,hnC,fun h' sb=>⟨.ref D,_,L.inv I2 f2 sb,rfl,q⟩⟩
theorem ps_lc {j:Nat} {y:Str} {py spos:Pos} (hN:X.N.Nodup) (hj:X.N[j]?=some y) (hy:X.env.scope.names.lookup y=some .local) (hsw:swapsWith (.ListComp elt [⟨.Name x px,iter,[],0⟩] scope pos) (some (.Name y py)) spos.line X.env=pure true)
  (hc:X.calm=true) (hi:PI X (.Name x px) iter wi) (hclos:closureFor scope X.env=pure cl) (hcell:∀ y∈scope.names,y.2≠.cell) (hkind:scope.kind=.function)
  (hnames:∀ y∈scope.names,y.2=.local->scope.names.lookup y.1=some .local) (hx:scope.names.lookup x=some .local) (nd:(x::ns).Nodup) (cap:Capt X scope cl ns idx)
  (hcl:∀ y c,cl.lookup y=some c->X.env.cells.lookup y=some c) (hfr:∀ y,((relabel scope X.env).names.lookup y=some .cell\/(relabel scope X.env).names.lookup y=some .free)->∃ c,cl.lookup y=some c)
  (hel:∀ (C:Addr) (s:Shared) (H:Hp) (fp:List Addr),PE (cxC X (x::ns) scope cl C s H fp) elt te) (hs:∀ v,foldedSetIterable iter X.env v=pure v) :
  PS X (.Assign [.Name y py] (.ListComp elt [⟨.Name x px,iter,[],0⟩] scope pos) spos) (tAsg (tLc wi idx te) (gName j)):=by
 intro pins s σ H D I h
 rw [exec_Assign_Name_used _ _ _ _ hsw]
 refine wpAny_bind (wpAny_standAt (wpAny_bind ?_))
 show wpAny _ _ (do let _ <- comprehension (.ListComp elt [⟨.Name x px,iter,[],0⟩] scope pos) scope X.env _ (newList []) false (eval iter X.env) (some (assign (.Name y py) X.env))) _ _ s
 refine wpAny_bind (wpAny_mono (wpAny_comprehension_free (use:=some (assign (.Name y py) X.env)) (Q:=fun _ s'=>SP X pins D .next s') rfl hs hclos hkind hnames
  (thn (hi pins s σ H _ I h) fun v s1 h1=>thn h1 fun itv s2 h2=>?_)) (fun _ s' hq=>wpAny_pure (wpAny_pure hq)) fun _ _ e=>e)
 refine JX (tt:=ttNil) hc hi hclos hcell hkind hnames hx nd cap hcl hfr (fun _ _ _ _=>pts_nil) hel (RR:=fun acc C=>compPost (model X.prog X.w) X.A X.xe (some (assign (.Name y py) X.env)) (fun _ s'=>SP X pins D .next s') acc C) (pie_toT h2) fun fp H2 H4 s5 C Da ys I2 f2 L q=>?_
 have I7:=L.inv I2 f2 (h':=s5.heap) ⟨rfl,fun _ _=>rfl⟩
 show wpAny _ _ (assign (.Name y py) X.env (.ref Da)) _ _ s5
 have cL:C≠X.env.locals:=Nat.ne_of_gt (Nat.lt_of_lt_of_le I2.lt L.cn)
 have cc:∀ z c,X.env.cells.lookup z=some c->c≠C:=fun z c e=>by
  obtain ⟨v,k⟩:=I2.cell z c e
  exact Nat.ne_of_lt (Nat.lt_of_lt_of_le k.lt L.cn)
 refine wpAny_assign_Name (Z6 I7 hN hj (.inl hy) (v:=.ref Da) rfl (fun s8 I8 sm=>?_) (.inr hy))
 obtain ⟨a,sba,ha⟩:=sm
 have ac:C≠a:=by
  rcases ha with rfl|ha
  ·exact cL
  ·exact Ne.symm (cc _ _ ha)
 obtain ⟨mC,o,es,ep,e1,e2⟩:=L.ns
 refine ⟨mC,⟨o,es,ep,(sba.2 C ac).trans e1,e2⟩,fun h' sb=>⟨_,_,?_,q⟩⟩
 refine I8.turned (it:=C) (h':=h') (t':=s8.toks) (fun b u nb e=>(sb.2 b nb).trans e) ?_ cL (.inr (Nat.le_trans I2.sz L.cn)) cc fun p hp z=>?_
 ·rw [zX (Ne.symm L.dc)]
  exact L.cf
 ·have:=Heap.lt_size (I2.pin p hp).1
  rw [z] at this
  exact absurd this (Nat.not_lt.mpr L.cn)
end
theorem all_range_bl (bs:List Bool):(List.range bs.length).all (fun i=>bs.getD i false)=bs.all id:=by
 rw [Bool.eq_iff_iff,List.all_eq_true,List.all_eq_true]
 constructor
 ·intro h b hb
  obtain ⟨i,hi,rfl⟩:=List.mem_iff_getElem.mp hb
  have:=h i (List.mem_range.mpr hi)
  simpa [List.getD,hi] using this
 ·intro h i hi
  have hi':=List.mem_range.mp hi
  have:=h bs[i] (List.getElem_mem hi')
  simpa [List.getD,hi'] using this
section
variable {X:Cx}
def rAll (K:PySem.W.Frag):List V->Hp->VK->Prop:=fun xs H Q=>∃ p,∃ bs:List Bool,xs=[.ref p]/\SqL K H p (bs.map V.bl)/\Q (.bl (bs.all id)) H
theorem call_all {K:PySem.W.Frag} (hK:X.K=K) (hc:X.calm=true):jJ X (.builtin "all") (rAll K):=by
 subst hK
 intro pins s σ H xs us Q I r h
 obtain ⟨p,bs,rfl,hp,q⟩:=h
 obtain ⟨u,rfl,rx⟩:=Zi r
 cases rx
 obtain ⟨its,r',pl,hz⟩:=I.list hp
 have hlen:=r'.length
 rw [List.length_map] at hlen
 have hlt:p < s.heap.objs.size:=by
  obtain ⟨o,n,e,_⟩:=pl
  exact Heap.lt_size e
 refine call_all_walk (wpAny_pyIter_list pl.isList ?_)
 refine ⟨s.heap.objs.size,[s.heap.objs.size,p],[s.heap.objs.size],its.toArray.size,fun i v=>its.toArray[i]?=some v,fun i h=>h.IsListIter s.heap.objs.size p i/\h.IsList p its.toArray,fun i=>bs.getD i false,rfl,Walks.list (A:=X.A.in1) (I.ok.hd hc) s.heap.objs.size p (Nat.ne_of_lt hlt) its.toArray,⟨⟨_,Heap.get?_push_size _ rfl,rfl,rfl⟩,pl.isList.push _⟩,?_,fun h' tk kk=>?_⟩
 ·intro i v z Q' E' hv hq
  have hv':its[i]?=some v:=by simpa using hv
  obtain ⟨hi,e⟩:=List.getElem?_eq_some_iff.mp hv'
  have hi':i < bs.length:=by omega
  have eb:(bs.map V.bl)[i]?=some (V.bl bs[i]):=by rw [List.getElem?_map,List.getElem?_eq_getElem hi']; rfl
  obtain ⟨w',hw,rw'⟩:=r'.get eb
  rw [hv'] at hw
  cases hw
  cases (show v=Value.bool bs[i] from rw')
  have e2:bs.getD i false=bs[i]:=by simp [List.getD,hi']
  dsimp only at hq
  rw [e2] at hq
  exact wpAny_truthy_bool hq
 ·rw [List.size_toArray,<- hlen,all_range_bl]
  refine ⟨.bl (bs.all id),H,I.kept (t':=tk) fun b o e=>?_,rfl,q⟩
  exact kk b o (fun z=>by
   have e':=List.mem_singleton.mp z
   have:=Heap.lt_size e
   rw [e'] at this
   exact Nat.lt_irrefl _ this) (Heap.get?_push_of_some _ e)
end
section
variable {prog:Program} {w:World} {A:Around} {E:Value->Shared->Prop} {s:Shared} {I l S:Addr} {items:Array Value}
end
section
variable {X:Cx}
end
def Pl:V->Prop
 |.flt _=>False
 |.byt _=>False
 |_=>True
theorem eq_rel {A:Around} {s:Shared} {x:V} {u u':Value} (hx:Pl x) (r:RelV x u) (r':RelV x u'):SeqAt.EqAt A s u u' true:=by
 cases x with
 |non=>cases (show u=Value.none from r); cases (show u'=Value.none from r'); exact SeqAt.EqAt.same _
 |bl b=>cases (show u=Value.bool b from r); cases (show u'=Value.bool b from r'); exact SeqAt.EqAt.same _
 |ref a=>cases (show u=Value.ref a from r); cases (show u'=Value.ref a from r'); exact SeqAt.EqAt.same _
 |ty T=>cases (show u=Value.type T from r); cases (show u'=Value.type T from r'); exact SeqAt.EqAt.same _
 |int i=>
  obtain ⟨t,rfl⟩:=r
  obtain ⟨t',rfl⟩:=r'
  have:=SeqAt.EqAt.int_int (A:=A) (s:=s) i t i t'
  rwa [beq_self_eq_true] at this
 |str y=>
  obtain ⟨t,rfl⟩:=r
  obtain ⟨t',rfl⟩:=r'
  have:=SeqAt.EqAt.str_str (A:=A) (s:=s) y t y t'
  rwa [beq_self_eq_true] at this
 |flt f=>exact hx.elim
 |byt f=>exact hx.elim
theorem all_true (n:Nat):(List.range n).all (fun _=>true)=true:=by simp
section
variable {X:Cx}
def rNeS (K:PySem.W.Frag):V->V->Hp->VK->Prop:=fun x y H Q=>
 ((∃ d,x=y/\Dp K H x d/\d.canLay0=true/\d.depth<=60)\/(∃ a b xs,x=.ref a/\y=.ref b/\SqL K H a xs/\SqL K H b xs/\∀ z∈xs,Pl z)\/(∃ a xs,x=.ref a/\y=.ref a/\SqT K H a xs/\∀ z∈xs,Pl z)\/
  ∃ a k i,x=.ref a/\y=.ref a/\H a=some (.dK [(k,.int i)]))/\Q (.bl false) H
theorem pair_eq {A:Around} {s:Shared} {xs:List V} {its its2:List Value} (h:∀ z∈xs,Pl z) (r:Vals xs its) (r2:Vals xs its2) (j:Nat) (h1:j < its.toArray.size) (h2:j < its2.toArray.size):SeqAt.EqAt A s its.toArray[j] its2.toArray[j] true:=by
 have l1:=r.length
 have hj:j < xs.length:=by simp at h1; omega
 have e:=List.getElem?_eq_getElem hj
 obtain ⟨u,hu,ru⟩:=r.get e
 obtain ⟨u2,hu2,ru2⟩:=r2.get e
 have e1:its.toArray[j]=u:=by
  have h1':j < its.length:=by simpa using h1
  rw [List.getElem?_eq_getElem h1'] at hu
  simpa using Option.some.inj hu
 have e2:its2.toArray[j]=u2:=by
  have h2':j < its2.length:=by simpa using h2
  rw [List.getElem?_eq_getElem h2'] at hu2
  simpa using Option.some.inj hu2
 rw [e1,e2]
 exact eq_rel (h _ (List.getElem_mem hj)) ru ru2
theorem op_neS {K:PySem.W.Frag} (hK:X.K=K) (hu:X.A.units+100 < cLine):OpR X (compareOp .NotEq) (rNeS K):=by
 subst hK
 intro pins s σ H x y v u Q I rx ry h
 obtain ⟨hv,q⟩:=h
 have fin:EP X pins σ Q (.bool false) s:=⟨.bl false,H,I,rfl,q⟩
 rcases hv with ⟨d,rfl,dp,c1,c2⟩|⟨a,b,xs,rfl,rfl,ha,hb,hp⟩|⟨a,xs,rfl,rfl,ha,hp⟩|⟨a,k,i,rfl,rfl,ha⟩
 ·obtain ⟨as,ra⟩:=dp.reads I rx
  obtain ⟨bs,rb⟩:=dp.reads I ry
  refine SeqAt.compareNe_reads ra rb c1 c1 (by omega) ?_
  rw [SeqAt.eqv_refl d c1]
  exact fin
 ·cases (show v=Value.ref a from rx)
  cases (show u=Value.ref b from ry)
  obtain ⟨its,r,pl,hz⟩:=I.list ha
  obtain ⟨its2,r2,pl2,hz2⟩:=I.list hb
  have l1:=r.length
  have l2:=r2.length
  have z:=SeqAt.RcNeAt.lists (e:=fun _=>true) pl.isList pl2.isList (by simp; omega) (show X.A.units < cLine by omega) (fun j h1 h2=>pair_eq hp r r2 j h1 h2)
  rw [all_true] at z
  exact z X.prog X.w X.xe _ fin
 ·cases (show v=Value.ref a from rx)
  cases (show u=Value.ref a from ry)
  obtain ⟨its,r,pl,hz⟩:=I.tuple ha
  have z:=SeqAt.RcNeAt.tuples (e:=fun _=>true) pl pl (show X.A.units < cLine by omega) (fun j h1 h2=>pair_eq hp r r j h1 h2)
  rw [all_true,beq_self_eq_true] at z
  exact z X.prog X.w X.xe _ fin
 ·cases (show v=Value.ref a from rx)
  cases (show u=Value.ref a from ry)
  obtain ⟨hz,hs,vs,kv,dd⟩:=(show zp X.prog X.w H s.heap a (.dK [(k,.int i)]) from I.hok a _ ha)
  cases kv with
  |@cons p q' ps qs h1 h2=>
   cases h2
   obtain ⟨k',v'⟩:=q'
   obtain ⟨e1,t,e2⟩:=h1
   simp only at e1 e2
   subst e1 e2
   refine PySem.W.keq_ne (knd:=yE X.prog X.w) (r:=true) hs hs dd dd (show X.A.units < cLine by omega) (fun _=>?_) (by simpa using fin)
   have hy:valueAt [(k,Value.int i t)] k=some (.int i t):=by simp [valueAt]
   exact PySem.W.KeqHits.hit (e:=true) (b:=true) hy (SeqAt.EqAt.same _) .nil
def rNeNil (K:PySem.W.Frag):V->V->Hp->VK->Prop:=fun x y H Q=>∃ a b xs,x=.ref a/\y=.ref b/\SqL K H a xs/\SqL K H b []/\Q (.bl (!xs.isEmpty)) H
theorem op_neNil {K:PySem.W.Frag} (hK:X.K=K) (hu:X.A.units+100 < cLine):OpR X (compareOp .NotEq) (rNeNil K):=by
 subst hK
 intro pins s σ H x y v u Q I rx ry h
 obtain ⟨a,b,xs,rfl,rfl,ha,hb,q⟩:=h
 cases xs with
 |nil=>exact op_neS rfl hu pins s σ H _ _ v u Q I rx ry ⟨.inr (.inl ⟨a,b,[],rfl,rfl,ha,hb,fun _ z=>nomatch z⟩),q⟩
 |cons z zs=>
  cases (show v=Value.ref a from rx)
  cases (show u=Value.ref b from ry)
  obtain ⟨its,r,pl,hz⟩:=I.list ha
  obtain ⟨its2,r2,pl2,hz2⟩:=I.list hb
  have l1:=r.length
  have l2:=r2.length
  have w':=SeqAt.RcNeAt.lists_lengths pl.isList pl2.isList (by simp at l1 l2 ⊢; omega) (show X.A.units < cLine by omega)
  exact w' X.prog X.w X.xe _ ⟨.bl true,H,I,rfl,q⟩
end
abbrev FQ (K:PySem.W.Frag) (H:Hp) (p:Addr) (x:Rat):Prop:=SqT K H p [.int x.num,.int ((x.den:Nat):Int)]
section
variable {K:PySem.W.Frag} {H H':Hp} {p q:Addr} {x y:Rat} {m n:Nat}
theorem FQ.cast (h:FQ K H p x) (e:x=y):FQ K H p y:=e▸h
theorem FQ.dp (h:FQ K H p x):Dp K H (.ref p) (.tuple [.int x.num,.int ((x.den:Nat):Int)]):=.tup h (.cons (.int _) (.cons (.int _) .nil))
theorem FQ.fit {t b:Int} (h:b≠0) (e:SqT K H p [.int (fT t b),.int (fB t b)]):FQ K H p (Rat.divInt t b):=by
 obtain ⟨e1,e2⟩:=q_fit (t:=t) h
 rw [e1,e2] at e
 exact e
theorem FQ.ofNeg {i:Int} (h:SqT K H p [.int i,.int ((x.den:Nat):Int)]) (e:i=-x.num):FQ K H p (-x):=by
 subst e
 exact h
def FB (n:Nat) (x:Rat):Prop:=Bd n x.num/\Bd n ((x.den:Nat):Int)
theorem FB.mono (h:FB m x) (l:m<=n):FB n x:=⟨h.1.mono l,h.2.mono l⟩
theorem FB.cast (h:FB n x) (e:x=y):FB n y:=e▸h
theorem FB.fit {t b:Int} (h:b≠0) (g1:Bd n t) (g2:Bd n b):FB n (Rat.divInt t b):=by
 obtain ⟨e1,e2⟩:=q_fit (t:=t) h
 refine ⟨?_,?_⟩
 ·rw [<- e1]; exact bd_fT h g1
 ·rw [<- e2]; exact bd_fB h g2
theorem q_ne (x:Rat):((x.den:Nat):Int)≠0:=by have:=YR x; omega
theorem Zp (h:x≠0):x.num≠0:=fun e=>h (Rat.num_eq_zero.mp e)
theorem FB.add (h:FB m x) (g:FB n y):FB (m+n+1) (x+y):=by
 rw [<- q_add]
 exact FB.fit (Int.mul_ne_zero (q_ne x) (q_ne y)) ((h.1.mul g.2).add ((g.1.mul h.2).mono (by omega))) ((h.2.mul g.2).mono (by omega))
theorem FB.sub (h:FB m x) (g:FB n y):FB (m+n+1) (x - y):=by
 rw [<- q_sub]
 exact FB.fit (Int.mul_ne_zero (q_ne x) (q_ne y)) ((h.1.mul g.2).sub ((g.1.mul h.2).mono (by omega))) ((h.2.mul g.2).mono (by omega))
theorem FB.mul (h:FB m x) (g:FB n y):FB (m+n) (x * y):=by
 rw [<- q_mul]
 exact FB.fit (Int.mul_ne_zero (q_ne x) (q_ne y)) (h.1.mul g.1) (h.2.mul g.2)
theorem FB.div (h:FB m x) (g:FB n y) (y0:y≠0):FB (m+n) (x / y):=by
 rw [<- q_div]
 exact FB.fit (Int.mul_ne_zero (q_ne x) (Zp y0)) (h.1.mul g.2) (h.2.mul g.1)
theorem FB.neg (h:FB n x):FB n (-x):=by
 refine ⟨?_,h.2⟩
 have:=h.1
 unfold Bd at this ⊢
 rw [(q_neg x).1]
 omega
theorem FB.ofInt {i:Int} (h:Bd n i) (l:64<=n):FB n (i:Rat):=⟨h,(Bd.small (i:=1) (by decide) (by decide)).mono l⟩
theorem ZR {b g:Int} (hb:Bd n b) (d:g ∣ b) (g0:g≠0):Bd n (b.fdiv g):=by
 refine hb.of_le ?_
 have e:=y4 d
 have q:=jv (x:=b.fdiv g) g0
 rw [e] at q
 exact q
theorem Jc {a b:Int} (h:b≠0) (hb:Bd n b):Bd n ((Int.gcd a b:Nat):Int):=by
 refine hb.of_le ?_
 have hd:Int.gcd a b ∣ b.natAbs:=Nat.gcd_dvd_right _ _
 have:=Nat.le_of_dvd (by omega) hd
 omega
end
theorem But.fresh {b:Addr} {H H':Hp} (h:H b=none) (s:But b H H'):Same H H':=fun a o e=>s a o (zI e h) e
theorem atI_mem (ns:List Int) (d:Int) (lo:0<=d) (hi:d < (ns.length:Int)):∃ v,atI (ns.map V.int) d=some (.int v)/\v∈ns:=by
 have hk:d.toNat < ns.length:=by omega
 have ek:d=((d.toNat:Nat):Int):=by omega
 have z:atI (ns.map V.int) ((d.toNat:Nat):Int)=some (.int ns[d.toNat]):=zr (by rw [List.getElem?_map,List.getElem?_eq_getElem hk]<;>rfl)
 rw [<- ek] at z
 exact ⟨_,z,List.getElem_mem hk⟩
theorem Scr.same {K:PySem.W.Frag} {H H':Hp} {a:Addr} (h:Scr K H a) (s:Same H H'):Scr K H' a:=by
 obtain ⟨ns,x,y⟩:=h
 exact ⟨ns,s.seq x,y⟩
theorem Fn.imp {P:Program} {w:World} {K:PySem.W.Frag} {mg:Str->Option Value} {base:Heap} {k:Nat} {x:Str} {ps:List Str} {sp sp':Sp} (F:Fn P w K mg base k x ps sp) (h:∀ vs H Q E,sp' vs H Q E->sp vs H Q E):Fn P w K mg base k x ps sp':=by
 obtain ⟨f,fd,g,r⟩:=F.ex
 exact ⟨f,fd,g.imp h,r⟩
theorem if_not {c:Prop} [Decidable c] {A B:Prop} (h1:¬ c->A) (h2:c->B):if (!decide c)=true then A else B:=by
 by_cases e:c
 ·rw [decide_eq_true e]; exact iteF (h2 e)
 ·rw [decide_eq_false e]; exact iteT (h1 e)
section
variable {X:Cx}
def rAl (K:PySem.W.Frag) (r:Bool):V->V->Hp->VK->Prop:=fun x y H Q=>∃ d,Dp K H x d/\Dp K H y d/\d.canLay0=true/\Nat.ble d.depth 60=true/\Q (.bl r) H
theorem op_neA {K:PySem.W.Frag} (hK:X.K=K) (hu:X.A.units+100 < cLine):OpR X (compareOp .NotEq) (rAl K false):=by
 intro pins s σ H x y v u Q I rx ry h
 obtain ⟨d,hx,hy,c,dep,q⟩:=h
 refine op_neD hK hu pins s σ H x y v u Q I rx ry ⟨d,d,hx,hy,c,c,?_,?_⟩
 ·have:=Nat.le_of_ble_eq_true dep
  omega
 ·rw [SeqAt.eqv_refl d c]
  exact q
theorem q_list {x y:Rat}:([x.num,((x.den:Nat):Int)]=[y.num,((y.den:Nat):Int)])↔x=y:=by
 constructor
 ·intro e
  simp only [List.cons.injEq,and_true] at e
  exact Rat.ext e.1 (by omega)
 ·intro e
  rw [e]
theorem op_eqQ {K:PySem.W.Frag} (hK:X.K=K) (hu:X.A.units+100 < cLine):OpR X (compareOp .Eq) (fun a b H Q=>∃ (p q:Addr) (x y:Rat),a=.ref p/\b=.ref q/\FQ K H p x/\FQ K H q y/\Q (.bl (decide (x=y))) H):=by
 subst hK
 intro pins s σ H a b v u Q I rx ry h
 obtain ⟨p,q,x,y,rfl,rfl,hx,hy,k⟩:=h
 refine op_eqTI (by omega) pins s σ H _ _ v u Q I rx ry ⟨p,q,[x.num,((x.den:Nat):Int)],[y.num,((y.den:Nat):Int)],rfl,rfl,hx,hy,?_⟩
 rw [decide_eq_decide.mpr q_list]
 exact k
def IsTup2 (K:PySem.W.Frag) (H:Hp) (x c:V) (b:Bool):Prop:=IsI K H x c b\/∃ a xs,x=.ref a/\SqT K H a xs/\kitOne K (.type "tuple") (valC c)=some b
theorem jf {K:PySem.W.Frag} (hK:X.K=K):jJ X (.builtin "isinstance") (fun xs H Q=>∃ x c b,xs=[x,c]/\((∃ T,c=.ty T)\/∃ C,c=.ref C)/\IsTup2 K H x c b/\Q (.bl b) H):=by
 subst hK
 intro pins s σ H xs us Q I r h
 obtain ⟨x,c,b,e0,hc,hi,q⟩:=h
 rcases hi with hi|⟨a,ys,rfl,ha,e⟩
 ·exact jm pins s σ H xs us Q I r ⟨x,c,b,e0,hc,hi,q⟩
 subst e0
 obtain ⟨u,w',rfl,rx,rc⟩:=vals2 r
 have ec:w'=valC c:=by
  rcases hc with ⟨T,rfl⟩|⟨C,rfl⟩
  ·exact rc
  ·exact rc
 subst ec
 cases (show u=Value.ref a from rx)
 obtain ⟨its,_,⟨o,h1,h2,_⟩,_⟩:=I.tuple ha
 exact kia_one PySem.W.kitx_tuple I.kIn ⟨o,h1,h2⟩ e (fun z=>nomatch z) fun tk=>⟨.bl b,H,I.tok _,rfl,q⟩
end
section
variable {K:PySem.W.Frag} {idx:List Nat} {te:TE} {σ:L2.St} {H:Hp} {Q:VK}
theorem Yy {a:Addr} {xs:List V} (Pv:Nat->List V->Hp->Prop) (h0:Pv 0 [] H) (hz:xs.length<=sizeLine) (hy:∀ i ys H,Pv i ys H->ys.length=i) (hl:∀ i ys H,Pv i ys H->SqL K H a xs)
  (hs:∀ i x ys H (Q':VK),xs[i]?=some x->Pv i ys H->(∀ v H2,Pv (i+1) (ys++[v]) H2->Q' v H2)->te (stIn (some x) idx σ) H Q') (hd:∀ ys H,Pv xs.length ys H->∀ p,H p=none->Q (.ref p) (upd H p (.lst ys))) :
  Zl (Itl K a) idx te σ Q H:=by
 refine ⟨fun i m ys H=>m=xs.length - i/\i<=xs.length/\Pv i ys H,⟨xs.length,by simp,Nat.zero_le _,h0⟩,?_⟩
 rintro i m ys H ⟨rfl,hi,p⟩
 have q:=hl i ys H p
 refine ⟨by rw [hy i ys H p]; omega,?_⟩
 by_cases hlt:i < xs.length
 ·refine .inr ⟨⟨xs,xs[i],q,by simp [hlt]⟩,fun y H' yl=>?_⟩
  obtain ⟨e,yl⟩:=yl
  subst e
  exact hs i y ys _ _ (yl xs q) p fun v H2 z=>⟨xs.length - (i+1),by omega,rfl,hlt,z⟩
 ·have e:i=xs.length:=by omega
  subst e
  exact .inl ⟨⟨xs,q,Nat.le_refl _⟩,hd ys H p⟩
theorem lc_range {lo:Int} {n:Nat} (Pv:Nat->List V->Hp->Prop) (h0:Pv 0 [] H) (hz:n<=sizeLine) (hy:∀ i ys H,Pv i ys H->ys.length=i)
  (hs:∀ i ys H (Q':VK),i < n->Pv i ys H->(∀ v H2,Pv (i+1) (ys++[v]) H2->Q' v H2)->te (stIn (some (.int (lo+(i:Int)))) idx σ) H Q') (hd:∀ ys H,Pv n ys H->∀ p,H p=none->Q (.ref p) (upd H p (.lst ys))) :
  Zl (Itr lo n) idx te σ Q H:=by
 refine ⟨fun i m ys H=>m=n - i/\i<=n/\Pv i ys H,⟨n,by simp,Nat.zero_le _,h0⟩,?_⟩
 rintro i m ys H ⟨rfl,hi,p⟩
 refine ⟨by rw [hy i ys H p]; omega,?_⟩
 by_cases hlt:i < n
 ·refine .inr ⟨hlt,fun y H' yl=>?_⟩
  obtain ⟨e,yl⟩:=yl
  subst e yl
  exact hs i ys _ _ hlt p fun v H2 z=>⟨n - (i+1),by omega,rfl,hlt,z⟩
 ·have e:i=n:=by omega
  subst e
  exact .inl ⟨Nat.le_refl _,hd ys H p⟩
end
theorem Yu {names:List (Str × NameKind)} {cl:List (Str × Addr)} (h:names.all (fun z=>z.2 != .cell && z.2 != .free)=true):∀ y,(names.lookup y=some .cell\/names.lookup y=some .free)->∃ c,cl.lookup y=some c:=fun y hy=>by
 have mem:∀ (l:List (Str × NameKind)) k,l.lookup y=some k->∃ z∈l,z.2=k:=fun l=>by
  induction l with
  |nil=>intro k e; cases e
  |cons a r ih=>
   intro k e
   rw [List.lookup_cons] at e
   split at e
   ·exact ⟨a,List.mem_cons_self,Option.some.inj e⟩
   ·obtain ⟨z,hz,ez⟩:=ih k e
    exact ⟨z,List.mem_cons_of_mem _ hz,ez⟩
 rcases hy with e|e
 all_goals
  obtain ⟨z,hz,ez⟩:=mem _ _ e
  have:=List.all_eq_true.mp h z hz
  rw [ez] at this
  simp at this
theorem Zz {X:Cx} {scope:Scope} {cl:List (Str × Addr)}:Capt X scope cl [] []:=⟨rfl,fun k y h=>by simp at h⟩
section
variable {K:PySem.W.Frag} {H H':Hp} {b:Addr} {v:V}
theorem kit_lst_lst:kitOne K (.type "list") (.type "list")=some true:=by with_unfolding_all rfl
end
section
variable {K:PySem.W.Frag} {H H':Hp} {b c:Addr} {x:V}
end
theorem ZQ {X:Cx} {scope:Scope} {cl:List (Str × Addr)} {y:Str} {j:Nat} {c:Addr} (h1:X.N[j]?=some y) (h2:X.env.kindOf y=some .cell) (h3:X.env.cells.lookup y=some c) (h4:cl.lookup y=some c)
  (h5:(relabel scope X.env).names.lookup y=some .cell\/(relabel scope X.env).names.lookup y=some .free):Capt X scope cl [y] [j]:=
 ⟨rfl,fun k z h=>by
  cases k with
  |zero=>cases h; exact ⟨j,c,rfl,h1,h2,h3,h4,h5⟩
  |succ k=>simp at h⟩
theorem YO {names:List (Str × NameKind)} {cl:List (Str × Addr)} (h:names.all (fun z=>(z.2 != .cell && z.2 != .free) || (cl.lookup z.1).isSome)=true):∀ y,(names.lookup y=some .cell\/names.lookup y=some .free)->∃ c,cl.lookup y=some c:=fun y hy=>by
 have mem:∀ (l:List (Str × NameKind)) k,l.lookup y=some k->(y,k)∈l:=fun l=>by
  induction l with
  |nil=>intro k e; cases e
  |cons a r ih=>
   intro k e
   rw [List.lookup_cons] at e
   split at e
   ·rename_i q
    have e1:y=a.1:=by simpa using q
    have e2:=Option.some.inj e
    rw [e1,<- e2]
    exact List.mem_cons_self
   ·exact List.mem_cons_of_mem _ (ih k e)
 rcases hy with e|e
 all_goals
  have:=List.all_eq_true.mp h _ (mem _ _ e)
  exact Option.isSome_iff_exists.mp (by simpa using this)
end Kw
theorem Kw.ixL {X:L2.Cx} {K:PySem.W.Frag} (hK:X.K=K):L2.IxR X (L2.rIxL K):=by
 subst hK
 exact L2.ix_list
theorem Kw.ixT {X:L2.Cx} {K:PySem.W.Frag} (hK:X.K=K):L2.IxR X (L2.rIxT K):=by
 subst hK
 exact L2.ix_tup
namespace Kw
open PySem PySem.Spec PyProof.Rows L2
section
variable {K:PySem.W.Frag} {H:Hp} {b:Addr} {x:V}
end
def Al2 {β:Type} (R:V->β->Prop):List V->List β->Prop
 |[],[]=>True
 |x::xs,b::bs=>R x b/\Al2 R xs bs
 |_,_=>False
section
variable {β:Type} {R R':V->β->Prop}
theorem Al2.imp (h:∀ x b,R x b->R' x b):∀ {xs:List V} {bs:List β},Al2 R xs bs->Al2 R' xs bs
 |[],[],_=>trivial
 |_::_,_::_,z=>⟨h _ _ z.1,Al2.imp h z.2⟩
 |[],_::_,z=>z.elim
 |_::_,[],z=>z.elim
theorem Al2.len:∀ {xs:List V} {bs:List β},Al2 R xs bs->xs.length=bs.length
 |[],[],_=>rfl
 |_::_,_::_,z=>by simp [Al2.len z.2]
 |[],_::_,z=>z.elim
 |_::_,[],z=>z.elim
theorem Al2.get:∀ {xs:List V} {bs:List β} {i:Nat} {x:V},Al2 R xs bs->xs[i]?=some x->∃ b,bs[i]?=some b/\R x b
 |[],_,_,_,_,e=>by simp at e
 |_::_,[],_,_,z,_=>z.elim
 |_::_,b::_,0,_,z,e=>by
  simp only [List.getElem?_cons_zero,Option.some.injEq] at e
  subst e
  exact ⟨b,rfl,z.1⟩
 |_::_,_::_,i+1,_,z,e=>by
  simp only [List.getElem?_cons_succ] at e
  obtain ⟨b,h1,h2⟩:=Al2.get z.2 e
  exact ⟨b,by simpa using h1,h2⟩
theorem Al2.snoc:∀ {xs:List V} {bs:List β} {x:V} {b:β},Al2 R xs bs->R x b->Al2 R (xs++[x]) (bs++[b])
 |[],[],_,_,_,h=>⟨h,trivial⟩
 |_::_,_::_,_,_,z,h=>⟨z.1,Al2.snoc z.2 h⟩
 |[],_::_,_,_,z,_=>z.elim
 |_::_,[],_,_,z,_=>z.elim
theorem Al2.two {ys:List V} {a b:β} (h:Al2 R ys [a,b]):∃ y1 y2,ys=[y1,y2]/\R y1 a/\R y2 b:=by
 match ys,h with
 |[y1,y2],h=>exact ⟨y1,y2,rfl,h.1,h.2.1⟩
 |[],h=>exact h.elim
 |[_],h=>exact h.2.elim
 |_::_::_::_,h=>exact h.2.2.elim
theorem zY {bs:List β} {i:Nat} {b:β} (h:bs[i]?=some b):bs.take (i+1)=bs.take i++[b]:=by
 rw [List.take_add_one,h]
 rfl
end
def FrQ (K:PySem.W.Frag) (H:Hp) (n:Nat) (x:V) (q:Rat):Prop:=∃ p,x=.ref p/\FQ K H p q/\FB n q
section
variable {K:PySem.W.Frag} {H H':Hp} {n m:Nat} {x:V} {q:Rat} {b:Rat × Rat × Int}
theorem FrQ.same (h:FrQ K H n x q) (s:Same H H'):FrQ K H' n x q:=by
 obtain ⟨p,e,g,d⟩:=h
 exact ⟨p,e,Kw.Same.tup s g,d⟩
theorem j4 {xs:List V} {qs:List Rat} (h:Al2 (FrQ K H n) xs qs) (s:Same H H'):Al2 (FrQ K H' n) xs qs:=Al2.imp (fun _ _ z=>z.same s) h
end
def sumQ (qs:List Rat):Rat:=qs.foldl (fun a b=>a+b) 0
section
variable {X:Cx} {K:PySem.W.Frag}
def tGlobT (K:PySem.W.Frag) (t b:Int):TE:=fun _ H Q=>∀ N,(∀ H1,SqT K H1 N [.int t,.int b])->Q (.ref N) H
theorem zl {x:Str} {t b:Int} {pos:Pos} (hK:X.K=K) (hg:Gl X x) (hm:∃ N,X.mg x=some (.ref N)/\∀ H,SqT K H N [.int t,.int b]) (hd:(x == ("__debug__" : Str))=false:=by decide):PE X (.Name x pos) (tGlobT K t b):=by
 obtain ⟨N,hm,hN⟩:=hm
 intro pins s σ H Q I h
 exact pe_glob hg hm (v:=.ref N) rfl hd pins s σ H Q I (h N hN)
theorem sqt_const {A:Addr} {o:Option Addr} {t b:Int} {k1 k2:Tok} {n:Nat} {sl:Array (Option Value)} (h:K.lookup A=some ⟨.type "tuple",o,.seq #[.int t k1,.int b k2] n,sl⟩):∀ H,SqT K H A [.int t,.int b]:=fun H=>
 .inr ⟨_,_,_,h,rfl,rfl,by show 2<=sizeLine; decide,.cons ⟨_,rfl⟩ (.cons ⟨_,rfl⟩ .nil)⟩
end
section
variable {pr:Program} {wd:World} {Ar:Around} {Er:Value->Shared->Prop}
end
section
variable {X:Cx} {pos:Pos}
end
section
variable {K:PySem.W.Frag} {te:TE} {σ:L2.St} {H:Hp} {Q:VK} {idx:List Nat}
end
section
variable {K:PySem.W.Frag} {H H':Hp} {n:Nat} {x:V} {q:Rat} {b:Rat × Rat × Int} {c:Addr} {zs xs:List V} {bs:List (Rat × Rat × Int)}
theorem FrQ.but (h:FrQ K H n x q) (s:But c H H') (hc:H c=some (.lst zs)):FrQ K H' n x q:=by
 obtain ⟨p,e,g,d⟩:=h
 exact ⟨p,e,s.tup hc g,d⟩
theorem Z5 {qs:List Rat} (h:Al2 (FrQ K H n) xs qs) (s:But c H H') (hc:H c=some (.lst zs)):Al2 (FrQ K H' n) xs qs:=Al2.imp (fun _ _ z=>z.but s hc) h
def frD (q:Rat):PyData:=.tuple [.int q.num,.int ((q.den:Nat):Int)]
theorem newB {H:Hp} {p:Addr} (o:HO):∃ H',upd H p o=H'/\But p H H'/\H' p=some o:=⟨_,rfl,but_upd _,zq⟩
theorem JR {H H':Hp} {a c:Addr} (s:But c H H') (h:H' a=none) (n:a≠c):H a=none:=by
 cases e:H a with
 |none=>rfl
 |some o=>have:=s _ _ n e; rw [h] at this; cases this
end
section
end
theorem most_of (ns:List Int) (N:Int) (h:1<=N):∃ m:Int,(if (if N < (((ns.map V.int).length:Nat):Int) then N else (((ns.map V.int).length:Nat):Int)) > 1 then (if N < (((ns.map V.int).length:Nat):Int) then N else (((ns.map V.int).length:Nat):Int)) else 1)=m/\1<=m/\m<=N:=by
 refine ⟨_,rfl,?_⟩
 split
 ·split<;>omega
 ·omega
def stL (loc:List (Option V)) (idx:List Nat) (σ:L2.St):L2.St:=loc++idx.map fun j=>(σ[j]?).join
def LcBodyG (J:It) (k:Nat) (idx:List Nat) (g:TG) (tt:TT) (te:TE) (σ:L2.St) (Q:VK) (H1:Hp):Prop:=∃ W:Nat->Nat->List V->Hp->Prop,(∃ m,W 0 m [] H1)/\∀ i m ys H,W i m ys H->ys.length<=sizeLine/\
 ((J.stop i H/\∀ p,H p=none->Q (.ref p) (upd H p (.lst ys)))\/(J.go i H/\∀ y H',J.yld i H y H'->∀ loc:List (Option V),loc.length=k->g y (stL loc idx σ) H' fun σ2 H2=>(∃ loc2:List (Option V),loc2.length=k/\σ2=stL loc2 idx σ)/\tt σ2 H2 fun b H3=>if b=true then te σ2 H3 fun v H4=>∃ m',m' < m/\W (i+1) m' (ys++[v]) H4
  else ∃ m',m' < m/\W (i+1) m' ys H3))
def tLcG (wi:TI) (k:Nat) (idx:List Nat) (g:TG) (tt:TT) (te:TE):TE:=fun σ H Q=>wi σ H fun J H1=>LcBodyG J k idx g tt te σ Q H1
section
variable {X:Cx} {pins:List (Addr × Obj)} {σ:L2.St} {H:Hp} {s:Shared} {N ns xs:List Str} {scope:Scope} {cl:List (Str × Addr)} {C:Addr} {fp:List Addr} {idx:List Nat}
theorem invCL {D:Addr} {h1:Heap} {t:Nat} {o:Obj} {mC:Str->Option Value} (I:Inv X pins σ H s) (ok:(cxC X (xs++ns) scope cl C s H fp).Ok) (cap:Capt X scope cl ns idx) (hcl:∀ y c,cl.lookup y=some c->X.env.cells.lookup y=some c)
  (keep:∀ b u,s.heap.get? b=some u->h1.get? b=some u) (hC:s.heap.objs.size<=C) (hns:h1.Ns C mC) (hD:h1.get? D=some o) (hDs:s.heap.objs.size<=D) (hDC:D≠C) (hod:∀ v,o.data≠.cell v) :
  Inv (cxC X (xs++ns) scope cl C s H fp) [(D,o)] (stL (xs.map fun _=>none) idx σ) H {s with heap:=h1,toks:=t}:=by
 have cellK:∀ y c,cl.lookup y=some c->∀ v,s.heap.IsCell c v->h1.IsCell c v:=fun y c e v ⟨o,ho,hd⟩=>⟨o,keep _ _ ho,hd⟩
 refine ⟨ok,rfl,I.bare,Un.kept keep,⟨mC,hns,fun i y v e1 e2 e3=>?_⟩,fun y c e=>?_,I.hok.fresh hC,fun y c e=>I.freeC y c (hcl y c e),fun p hp=>?_,I.hok.kept keep,?_⟩
 ·by_cases hlt:i < xs.length
  ·have e2':(xs.map (fun _=>(none:Option V)))[i]?=some (some v):=by
    have z:(stL (xs.map fun _=>none) idx σ)[i]?=some (some v):=e2
    unfold stL at z
    rwa [List.getElem?_append_left (by simpa using hlt)] at z
   rw [List.getElem?_map] at e2'
   cases q:xs[i]? with
   |none=>rw [q] at e2'; cases e2'
   |some w=>rw [q] at e2'; cases e2'
  ·obtain ⟨k,rfl⟩:∃ k,i=xs.length+k:=⟨i - xs.length,by omega⟩
   have e1':ns[k]?=some y:=by
    have z:(xs++ns)[xs.length+k]?=some y:=e1
    rwa [List.getElem?_append_right (by omega),Nat.add_sub_cancel_left] at z
   obtain ⟨j,c,h1',h2,h3,h4,h5,h6⟩:=cap.2 k y e1'
   have e2':(idx.map fun j=>(σ[j]?).join)[k]?=some (some v):=by
    have z:(stL (xs.map fun _=>none) idx σ)[xs.length+k]?=some (some v):=e2
    unfold stL at z
    rwa [List.getElem?_append_right (by simp),List.length_map,Nat.add_sub_cancel_left] at z
   rw [List.getElem?_map,h1'] at e2'
   have e4:(σ[j]?).join=some v:=Option.some.inj e2'
   have e5:σ[j]?=some (some v):=by
    cases q:σ[j]? with
    |none=>rw [q] at e4; cases e4
    |some z=>rw [q] at e4; exact congrArg some e4
   obtain ⟨m,hn,hl⟩:=I.loc
   obtain ⟨u,r,lk⟩:=hl j y v h2 e5 (.inr (.inl h3))
   refine ⟨u,r,.inr ⟨h6,c,h5,?_⟩⟩
   rcases lk with ⟨z,_⟩|⟨_,c',z,ic⟩
   ·rw [h3] at z; cases z
   ·rw [h4] at z; cases z
    exact cellK y c h5 _ ic
 ·obtain ⟨v,ic⟩:=I.cell y c (hcl y c e)
  exact ⟨v,cellK y c e v ic⟩
 ·have e:p=(D,o):=by simpa [cxC] using hp
  subst e
  refine ⟨hD,I.hok.fresh hDs,hDC,fun hs=>?_,hod⟩
  obtain ⟨_,o',ho',_⟩:=I.stack.mem hs
  exact absurd (Heap.lt_size ho') (Nat.not_lt.mpr hDs)
 ·unfold stL
  rw [List.length_append,List.length_map,List.length_map,cap.1]
  exact (List.length_append ..).symm
end
section
variable {X:Cx} {elt iter tg:Expr} {ifs:List Expr} {xs:List Str} {pos:Pos} {scope:Scope} {cl:List (Str × Addr)} {wi:TI} {g:TG} {tt:TT} {te:TE} {ns:List Str} {idx:List Nat}
theorem lc_mainG (hc:X.calm=true) (hi:PI X tg iter wi) (hclos:closureFor scope X.env=pure cl) (hcell:∀ y∈scope.names,y.2≠.cell) (hkind:scope.kind=.function)
  (hnames:∀ y∈scope.names,y.2=.local->scope.names.lookup y.1=some .local) (hg:∀ (C:Addr) (s:Shared) (H:Hp) (fp:List Addr),PG (cxC X (xs++ns) scope cl C s H fp) tg g) (cap:Capt X scope cl ns idx)
  (hcl:∀ y c,cl.lookup y=some c->X.env.cells.lookup y=some c) (hfr:∀ y,((relabel scope X.env).names.lookup y=some .cell\/(relabel scope X.env).names.lookup y=some .free)->∃ c,cl.lookup y=some c)
  (htt:∀ (C:Addr) (s:Shared) (H:Hp) (fp:List Addr),PTs (cxC X (xs++ns) scope cl C s H fp) ifs tt) (hel:∀ (C:Addr) (s:Shared) (H:Hp) (fp:List Addr),PE (cxC X (xs++ns) scope cl C s H fp) elt te)
  {pins:List (Addr × Obj)} {σ:L2.St} {Q:VK} {itv:Value} {s2:Shared} {E:Value->Shared->Prop} {RR:Value->Addr->Result->Shared->Prop} (h2:PIE X pins σ tg (fun J H1=>LcBodyG J xs.length idx g tt te σ Q H1) itv s2)
  (hRR:∀ fp H2 H4 s5 C D ys,Inv X pins σ H2 s2->(∀ b∈fp,FpOk X pins H2 b)->LcEnd X fp H2 H4 s2 s5 C D ys->Q (.ref D) (upd H4 D (.lst ys))->RR (.ref D) C (.ok .next) s5) :
  wpAny (model X.prog X.w) X.A (newList []) (fun acc s3=>wpAny (model X.prog X.w) X.A (newFunctionEnv scope X.env.globals cl [] X.env.qual none .none (some X.env)) (fun cenv s4=>
   codeAny (model X.prog X.w) X.A (.compStart (.ListComp elt [⟨tg,iter,ifs,0⟩] scope pos) 0 itv acc {cenv with scope:=relabel scope X.env}) (RR acc cenv.locals) s4) E s3) E s2:=by
 obtain ⟨it,fp,tn,J,H2,e,I2,T,st2,f2,W,⟨m0,w0⟩,turn⟩:=h2
 subst e
 refine wpAny_newObj_type (wpAny_newFunctionEnv hcell (by intro y hy; simp at hy) (fun h1 hns1 hsb1=>?_) hkind)
 dsimp only at hns1 hsb1 ⊢
 generalize hH2:s2.heap.push {cls:=.type "list",dict:=none,data:=.seq ([]:List Value).toArray}=g2 at hns1 hsb1 ⊢
 have hC:g2.objs.size=s2.heap.objs.size+1:=by rw [<- hH2,Heap.size_push]
 have hDC:s2.heap.objs.size≠g2.objs.size:=by rw [hC]; exact Nat.ne_of_lt (Nat.lt_succ_self _)
 have hCle:s2.heap.objs.size<=g2.objs.size:=by rw [hC]; exact Nat.le_succ _
 have keep1:∀ b o,s2.heap.get? b=some o->h1.get? b=some o:=fun b o e=>hsb1.extBut b o (Nat.ne_of_lt (Nat.lt_of_lt_of_le (Heap.lt_size e) hCle)) (Heap.get?_push_of_some _ (hH2▸Heap.get?_push_of_some _ e))
 have hacc:h1.get? s2.heap.objs.size=some {cls:=.type "list",data:=.seq ([]:List Value).toArray 0}:=hsb1.extBut _ _ hDC (Heap.get?_push_of_some _ (hH2▸Heap.get?_push_size _ rfl))
 have lt:∀ b∈fp,b < s2.heap.objs.size:=fun b hb=>by
  obtain ⟨o,e,_⟩:=T.obj _ _ st2 b hb
  exact Heap.lt_size e
 have ok:=okC (N:=xs++ns) (scope:=scope) (cl:=cl) (C:=g2.objs.size) I2 f2 lt hCle hkind hcl hfr
 have I3:=invCL (D:=s2.heap.objs.size) (t:=s2.toks+([]:List (Str × Value)).length) I2 ok cap hcl keep1 hCle hns1 hacc (Nat.le_refl _) hDC (fun v z=>by cases z)
 have fC:∀ {H':Hp} {pl:List (Addr × Obj)},(∀ p∈pl,p.1=s2.heap.objs.size)->(∀ b∈fp,H' b=none)->∀ b∈fp,FpOk (cxC X (xs++ns) scope cl g2.objs.size s2 H2 fp) pl H' b:=fun {H' pl} hpl hn b hb=>
  ⟨hn b hb,(ok.exf b hb).1,fun z=>ok.exfs b hb z,.inl hb,(ok.exf b hb).2,fun p hp z=>by
   have q:=hpl p (by simpa [cxC] using hp)
   have:=lt b hb
   rw [<- z,q] at this
   exact Nat.lt_irrefl _ this⟩
 have lnc:∀ us:List Value,∀ v,(LCg.lst us).data≠.cell v:=fun us v z=>by cases z
 have loop:∀ s3:Shared,s3={s2 with heap:=h1,toks:=s2.toks+([]:List (Str × Value)).length}->
   codeAny (model X.prog X.w) X.A (.compLoop (.ListComp elt [⟨tg,iter,ifs,0⟩] scope pos) 0 (.ref it) (.ref s2.heap.objs.size) (compEnvC scope cl g2.objs.size X.env))
    (RR (.ref s2.heap.objs.size) g2.objs.size) s3:=by
  rintro s3 rfl
  refine lc_loop (fun n s'=>∃ i ys us r H',r.length=xs.length/\Inv (cxC X (xs++ns) scope cl g2.objs.size s2 H2 fp) [(s2.heap.objs.size,LCg.lst us)] (stL r idx σ) H' s'/\tn i s'.heap/\(∀ b∈fp,H' b=none)/\Vals ys us/\W i n ys H') ?_ m0
   ⟨0,[],[],xs.map fun _=>none,H2,by simp,I3,T.keep _ _ _ st2 fun b _ o e=>keep1 b o e,fun b hb=>(f2 b hb).1,.nil,w0⟩
  rintro n s4 ⟨i,ys,us,r,H4,lr,I4,st4,fr4,vs4,w4⟩
  obtain ⟨hz,⟨stop,qn⟩|⟨go,step⟩⟩:=turn i n ys H4 w4
  ·refine thn (T.done (cxC X (xs++ns) scope cl g2.objs.size s2 H2 fp) rfl rfl rfl hc i _ s4 _ H4 NoE I4 (fC (fun p hp=>by rw [List.mem_singleton.mp hp]) fr4) st4 stop) fun r5 s5 zz=>?_
   obtain ⟨hr5,I5⟩:=zz
   subst hr5
   obtain ⟨mC,hnC,_⟩:=I5.loc
   obtain ⟨pD1,pD2,_⟩:=I5.pin (s2.heap.objs.size,LCg.lst us) (List.mem_append_right _ (List.mem_singleton.mpr rfl))
   exact hRR fp H2 H4 s5 g2.objs.size s2.heap.objs.size ys I2 f2 ⟨rfl,hCle,hDC,I5.base,I5.hok,I5.free,pD2,I5.os,I5.bare,⟨mC,hnC⟩,⟨us,vs4,pD1⟩,hz⟩ (qn _ pD2)
  ·refine thn (T.item (cxC X (xs++ns) scope cl g2.objs.size s2 H2 fp) rfl rfl rfl hc i _ s4 _ H4 NoE I4 (fC (fun p hp=>by rw [List.mem_singleton.mp hp]) fr4) st4 go) fun r5 s5 zz=>?_
   obtain ⟨u,hr5,k5⟩:=zz
   subst hr5
   refine thn k5 fun _ s6 zz=>?_
   obtain ⟨y,H6,I6,r6,y6,st6,fr6⟩:=zz
   have I6':=I6.pinned (fC (fun p hp=>by rw [List.mem_singleton.mp hp]) fr6) (T.obj _ _ st6)
   refine thn (hg g2.objs.size s2 H2 fp _ s6 _ H6 y u _ I6' r6 (step y _ y6 r lr)) fun _ s7 ⟨σ7,H7,I7,⟨loc2,l2,e7⟩,k7⟩=>?_
   subst e7
   refine thn (htt g2.objs.size s2 H2 fp _ s7 _ _ _ I7 k7) fun ok s71 zz=>?_
   obtain ⟨H71,I71,k71⟩:=zz
   cases ok with
   |false=>
    obtain ⟨m',lm,w8⟩:=(show ∃ m',m' < n/\W (i+1) m' ys H71 from k71)
    have kf:∀ b∈fp,∀ o,s6.heap.get? b=some o->s71.heap.get? b=some o/\H71 b=none:=fun b hb o e=>by
     have q:=I71.pin (b,o) (List.mem_append_right _ (List.mem_append_right _ (jC hb e)))
     exact ⟨q.1,q.2.1⟩
    obtain ⟨pD1,pD2,pD3,pD4,_⟩:=I71.pin (s2.heap.objs.size,LCg.lst us) (by simp [cxC])
    refine ⟨m',lm,i+1,ys,us,loc2,H71,l2,I71.pins_of fun p hp=>?_,?_,fun b hb=>?_,vs4,w8⟩
    ·rw [List.mem_singleton.mp hp]
     exact ⟨pD1,pD2,pD3,pD4,lnc _⟩
    ·exact T.keep _ _ _ st6 fun b hb o e=>(kf b hb o e).1
    ·obtain ⟨o,e,_⟩:=T.obj _ _ st6 b hb
     exact (kf b hb o e).2
   |true=>
   refine thn (hel g2.objs.size s2 H2 fp _ s71 _ _ _ I71 k71) fun y8 s8 zz=>?_
   obtain ⟨v,H8,I8,r8,m',lm,w8⟩:=zz
   obtain ⟨pD1,pD2,pD3,pD4,_⟩:=I8.pin (s2.heap.objs.size,LCg.lst us) (by simp [cxC])
   have kf:∀ b∈fp,∀ o,s6.heap.get? b=some o->s8.heap.get? b=some o/\H8 b=none:=fun b hb o e=>by
    have q:=I8.pin (b,o) (List.mem_append_right _ (List.mem_append_right _ (jC hb e)))
    exact ⟨q.1,q.2.1⟩
   refine append_at (hsz:=by show us.toArray.size<=sizeLine; rw [List.size_toArray,<- vs4.length]; exact hz) pD1 fun h9 sb9 hD9=>?_
   have I8':Inv (cxC X (xs++ns) scope cl g2.objs.size s2 H2 fp) [] (stL loc2 idx σ) H8 s8:=I8.pins_of fun p hp=>nomatch hp
   have I9:=I8'.turned (it:=s2.heap.objs.size) (h':=h9) (t':=s8.toks) (fun b o hb e=>(sb9.2 b hb).trans e) pD2 pD3 (.inr (Nat.le_refl _)) (fun y c e z=>by
     obtain ⟨v,q⟩:=I2.cell y c (hcl y c e)
     exact absurd q.lt (by rw [z]; exact Nat.lt_irrefl _)) (fun p hp=>by simp [cxC] at hp)
   refine ⟨m',lm,i+1,ys++[v],us++[y8],loc2,H8,l2,I9.pins_of fun p hp=>?_,?_,fun b hb=>?_,vs4.append (.cons r8 .nil),w8⟩
   ·rw [List.mem_singleton.mp hp]
    exact ⟨hD9.trans (congrArg some (LCg.lst_snoc us y8)),pD2,pD3,pD4,lnc _⟩
   ·exact T.keep _ _ _ st6 fun b hb o e=>(sb9.2 b (Nat.ne_of_lt (lt b hb))).trans (kf b hb o e).1
   ·obtain ⟨o,e,_⟩:=T.obj _ _ st6 b hb
    exact (kf b hb o e).2
 exact codeAny_compStart_list (loop _ rfl) (T.self _ 0 _ _ _ (T.keep _ _ _ st2 fun b _ o e=>keep1 b o e) (loop _ rfl))
theorem ps_lcG {j:Nat} {y:Str} {py spos:Pos} (hN:X.N.Nodup) (hj:X.N[j]?=some y) (hy:X.env.scope.names.lookup y=some .local) (hsw:swapsWith (.ListComp elt [⟨tg,iter,ifs,0⟩] scope pos) (some (.Name y py)) spos.line X.env=pure true)
  (hc:X.calm=true) (hi:PI X tg iter wi) (hclos:closureFor scope X.env=pure cl) (hcell:∀ y∈scope.names,y.2≠.cell) (hkind:scope.kind=.function)
  (hnames:∀ y∈scope.names,y.2=.local->scope.names.lookup y.1=some .local) (hg:∀ (C:Addr) (s:Shared) (H:Hp) (fp:List Addr),PG (cxC X (xs++ns) scope cl C s H fp) tg g) (cap:Capt X scope cl ns idx)
  (hcl:∀ y c,cl.lookup y=some c->X.env.cells.lookup y=some c) (hfr:∀ y,((relabel scope X.env).names.lookup y=some .cell\/(relabel scope X.env).names.lookup y=some .free)->∃ c,cl.lookup y=some c)
  (htt:∀ (C:Addr) (s:Shared) (H:Hp) (fp:List Addr),PTs (cxC X (xs++ns) scope cl C s H fp) ifs tt) (hel:∀ (C:Addr) (s:Shared) (H:Hp) (fp:List Addr),PE (cxC X (xs++ns) scope cl C s H fp) elt te) (hs:∀ v,foldedSetIterable iter X.env v=pure v) :
  PS X (.Assign [.Name y py] (.ListComp elt [⟨tg,iter,ifs,0⟩] scope pos) spos) (tAsg (tLcG wi xs.length idx g tt te) (gName j)):=by
 intro pins s σ H D I h
 rw [exec_Assign_Name_used _ _ _ _ hsw]
 refine wpAny_bind (wpAny_standAt (wpAny_bind ?_))
 show wpAny _ _ (do let _ <- comprehension (.ListComp elt [⟨tg,iter,ifs,0⟩] scope pos) scope X.env _ (newList []) false (eval iter X.env) (some (assign (.Name y py) X.env))) _ _ s
 refine wpAny_bind (wpAny_mono (wpAny_comprehension_free (use:=some (assign (.Name y py) X.env)) (Q:=fun _ s'=>SP X pins D .next s') rfl hs hclos hkind hnames
  (thn (hi pins s σ H _ I h) fun v s1 h1=>thn h1 fun itv s2 h2=>?_)) (fun _ s' hq=>wpAny_pure (wpAny_pure hq)) fun _ _ e=>e)
 refine lc_mainG hc hi hclos hcell hkind hnames hg cap hcl hfr htt hel (RR:=fun acc C=>compPost (model X.prog X.w) X.A X.xe (some (assign (.Name y py) X.env)) (fun _ s'=>SP X pins D .next s') acc C) h2 fun fp H2 H4 s5 C Da ys I2 f2 L q=>?_
 have I7:=L.inv I2 f2 (h':=s5.heap) ⟨rfl,fun _ _=>rfl⟩
 show wpAny _ _ (assign (.Name y py) X.env (.ref Da)) _ _ s5
 have cL:C≠X.env.locals:=Nat.ne_of_gt (Nat.lt_of_lt_of_le I2.lt L.cn)
 have cc:∀ z c,X.env.cells.lookup z=some c->c≠C:=fun z c e=>by
  obtain ⟨v,k⟩:=I2.cell z c e
  exact Nat.ne_of_lt (Nat.lt_of_lt_of_le k.lt L.cn)
 refine wpAny_assign_Name (Z6 I7 hN hj (.inl hy) (v:=.ref Da) rfl (fun s8 I8 sm=>?_) (.inr hy))
 obtain ⟨a,sba,ha⟩:=sm
 have ac:C≠a:=by
  rcases ha with rfl|ha
  ·exact cL
  ·exact Ne.symm (cc _ _ ha)
 obtain ⟨mC,o,es,ep,e1,e2⟩:=L.ns
 refine ⟨mC,⟨o,es,ep,(sba.2 C ac).trans e1,e2⟩,fun h' sb=>⟨_,_,?_,q⟩⟩
 refine I8.turned (it:=C) (h':=h') (t':=s8.toks) (fun b u nb e=>(sb.2 b nb).trans e) ?_ cL (.inr (Nat.le_trans I2.sz L.cn)) cc fun p hp z=>?_
 ·rw [zX (Ne.symm L.dc)]
  exact L.cf
 ·have:=Heap.lt_size (I2.pin p hp).1
  rw [z] at this
  exact absurd this (Nat.not_lt.mpr L.cn)
end
section
variable {K:PySem.W.Frag} {te:TE} {tt:TT} {g:TG} {σ:L2.St} {H:Hp} {Q:VK} {idx:List Nat} {k:Nat}
theorem lcg_list {a:Addr} {xs:List V} (Pv:Nat->List V->Hp->Prop) (h0:Pv 0 [] H) (hz:xs.length<=sizeLine) (hy:∀ i ys H,Pv i ys H->ys.length=i) (hl:∀ i ys H,Pv i ys H->SqL K H a xs)
  (hs:∀ i x ys H (Q':VK) (loc:List (Option V)),loc.length=k->xs[i]?=some x->Pv i ys H->(∀ v H2,Pv (i+1) (ys++[v]) H2->Q' v H2)->g x (stL loc idx σ) H fun σ2 H2=>(∃ loc2:List (Option V),loc2.length=k/\σ2=stL loc2 idx σ)/\te σ2 H2 Q') (hd:∀ ys H,Pv xs.length ys H->∀ p,H p=none->Q (.ref p) (upd H p (.lst ys))) :
  LcBodyG (Itl K a) k idx g ttNil te σ Q H:=by
 refine ⟨fun i m ys H=>m=xs.length - i/\i<=xs.length/\Pv i ys H,⟨xs.length,by simp,Nat.zero_le _,h0⟩,?_⟩
 rintro i m ys H ⟨rfl,hi,p⟩
 have q:=hl i ys H p
 refine ⟨by rw [hy i ys H p]; omega,?_⟩
 by_cases hlt:i < xs.length
 ·refine .inr ⟨⟨xs,xs[i],q,by simp [hlt]⟩,fun y H' yl loc ll=>?_⟩
  obtain ⟨e,yl⟩:=yl
  subst e
  have z:=hs i y ys _ (fun v H4=>∃ m',m' < xs.length - i/\m'=xs.length - (i+1)/\i+1<=xs.length/\Pv (i+1) (ys++[v]) H4) loc ll (yl xs q) p fun v H2 z=>⟨xs.length - (i+1),by omega,rfl,hlt,z⟩
  exact z
 ·have e:i=xs.length:=by omega
  subst e
  exact .inl ⟨⟨xs,q,Nat.le_refl _⟩,hd ys H p⟩
end
section
variable {X:Cx} {pos:Pos}
theorem pg_tupK {K:PySem.W.Frag} (hK:X.K=K) {es:List Expr} {k:Nat} {t:TGs} {n:Nat} (hc:X.calm=true) (h:PGs X es t) (hn:(assignEach es X.env).length=n:=by rfl) (hst:(assignEach es X.env).findIdx? (·.1)=none:=by rfl):PG X (.Tuple es k pos) (gTup K n t):=by
 subst hK
 exact pg_tup hc h hn hst
end
theorem Z2 (q:Rat) (qs:List Rat):sumQ (q::qs)=q+sumQ qs:=by
 have h:∀ (l:List Rat) (a:Rat),l.foldl (fun a b=>a+b) a=a+sumQ l:=by
  intro l
  induction l with
  |nil=>intro a; show a=a+0; grind
  |cons b l ih=>
   intro a
   show l.foldl _ (a+b)=a+l.foldl (fun a b=>a+b) (0+b)
   rw [ih,ih]
   grind
 show qs.foldl (fun a b=>a+b) (0+q)=_
 rw [h]
 grind
theorem Al2.set {β:Type} {R:V->β->Prop}:∀ {xs:List V} {bs:List β} {j:Nat} {x:V} {b:β},Al2 R xs bs->R x b->Al2 R (xs.set j x) (bs.set j b)
 |[],[],_,_,_,_,_=>trivial
 |_::_,_::_,0,_,_,z,h=>⟨h,z.2⟩
 |_::_,_::_,j+1,_,_,z,h=>⟨z.1,Al2.set z.2 h⟩
 |[],_::_,_,_,_,z,_=>z.elim
 |_::_,[],_,_,_,z,_=>z.elim
section
variable {prog:Program} {w:World} {A:Around} {E:Value->Shared->Prop} {h:Heap} {g:Array GenState} {d:Drawn} {t:Nat} {os:OsState} {C f:Addr} {K:PySem.W.Frag}
end
section
variable {prog:Program} {w:World} {A:Around} {E:Value->Shared->Prop} {h:Heap} {g:Array GenState} {d:Drawn} {t:Nat} {os:OsState} {C e:Addr} {K:PySem.W.Frag} {oe:Obj} {vs:Array Value}
end
end Kw
namespace Kw
open PySem PySem.Spec PyProof.Rows L2 PySem.Builtin PySem.Builtin.ObjectAttr
section
variable {prog:Program} {w:World} {A:Around} {R:Result->Shared->Prop} {s:Shared} {K:PySem.W.Frag} {x C:Addr} {ox:Obj} {od:Option Obj} {name:Str} {tk:Tok} {v:Value}
end
end Kw
namespace Kw
open PySem PySem.Spec PyProof.Rows L2 PySem.Builtin PySem.Builtin.ObjectAttr
section
variable {prog:Program} {w:World} {A:Around} {R:Result->Shared->Prop} {s:Shared} {K:PySem.W.Frag} {x C:Addr} {ox:Obj} {od:Option Obj} {name:Str} {tk:Tok} {v:Value}
end
end Kw
namespace Kw
open PySem PySem.Spec PyProof.Rows L2 PySem.Builtin PySem.Builtin.ObjectAttr
section
variable {prog:Program} {w:World} {A:Around} {E:Value->Shared->Prop} {s:Shared} {K:PySem.W.Frag} {x C:Addr} {ox:Obj} {odx:Obj} {name:Str} {v:Value}
end
end Kw
namespace Kw
open PySem PySem.Spec PyProof.Rows L2
section
variable {P:Program} {w:World} {H:Hp} {h:Heap} {x C d:Addr} {od:Option Addr} {fs:List (Str × V)}
end
section
variable {P:Program} {w:World} {K:PySem.W.Frag} {mg:Str->Option Value} {base:Heap} {C:Addr} {qual:Str} {st:Stmt} {N ps:List Str} {k:Nat} {sp:Sp}
end
section
variable {X:Cx} {pins:List (Addr × Obj)} {σ:L2.St} {H:Hp} {s:Shared} {k k':Nat} {f C CK:Addr} {fd:FuncData} {ps:List Str} {sp:Sp} {E:XK} {x:Str} {p pos apos:Pos} {e:Expr} {es:List Expr} {t:TA}
variable {o value:Expr} {f:Str} {pos':Pos} {ta tv:TE}
end
def clsAt (l:List Addr) (n:Nat):Addr:=l.getD n 0
section
variable {X:Cx} {E:XK} {e:Expr} {te:TE} {pos:Pos}
variable {o:Expr} {f:Str} {ta:TE}
end
section
variable {X:Cx} {pins pins':List (Addr × Obj)} {σ:L2.St} {H:Hp} {s:Shared} {E0:Value->Shared->Prop}
end
section
variable {X:Cx} {pins:List (Addr × Obj)} {H:Hp} {s:Shared} {hc:Heap} {x CA:Addr} {od:Option Addr}
end
section
variable {X:Cx} {pins:List (Addr × Obj)} {σ:L2.St} {H:Hp} {s:Shared}
end
section
variable {X:Cx} {j:Nat} {n xK:Str} {CK:Addr} {ts:TS} {b₀:Stmt} {suite:List Stmt} {kp hpos pos:Pos} {rest:List ExceptHandler} {tr:Ends->Addr->Option Addr->Hp->Prop}
variable {body:List Stmt} {tb:XK->TS} {th:Ends->Addr->Option Addr->Hp->Prop} {h₀:ExceptHandler} {hs:List ExceptHandler}
end
section
variable {X:Cx}
def rEqNil (K:PySem.W.Frag):V->V->Hp->VK->Prop:=fun x y H Q=>∃ a b xs,x=.ref a/\y=.ref b/\SqL K H a xs/\SqL K H b []/\Q (.bl xs.isEmpty) H
theorem op_eqNil {K:PySem.W.Frag} (hK:X.K=K) (hu:X.A.units+100 < cLine):OpR X (compareOp .Eq) (rEqNil K):=by
 subst hK
 intro pins s σ H x y v u Q I rx ry h
 obtain ⟨a,b,xs,rfl,rfl,ha,hb,q⟩:=h
 cases xs with
 |nil=>exact op_eqD rfl hu pins s σ H _ _ v u Q I rx ry ⟨.list [],.list [],.lst ha .nil,.lst hb .nil,rfl,rfl,by decide,q⟩
 |cons z zs=>
  cases (show v=Value.ref a from rx)
  cases (show u=Value.ref b from ry)
  obtain ⟨its,r,pl,hz⟩:=I.list ha
  obtain ⟨its2,r2,pl2,hz2⟩:=I.list hb
  have l1:=r.length
  have l2:=r2.length
  have w':=SeqAt.RcAt.lists_lengths pl.isList pl2.isList (by simp at l1 l2 ⊢; omega) (show X.A.units < cLine by omega)
  exact w' X.prog X.w X.xe _ ⟨.bl false,H,I,rfl,q⟩
end
section
variable {K:PySem.W.Frag} {idx:List Nat} {tt:TT} {te:TE} {σ:L2.St} {H:Hp} {Q:VK}
theorem lc_filter {a:Addr} {xs:List V} (p:V->Bool) (hl:SqL K H a xs) (hz:xs.length<=sizeLine) (ht:∀ x∈xs,∀ Q':Bool->Hp->Prop,Q' (p x) H->tt (stIn (some x) idx σ) H Q') (he:∀ x∈xs,∀ Q':VK,Q' x H->te (stIn (some x) idx σ) H Q')
  (hd:∀ q,H q=none->Q (.ref q) (upd H q (.lst (xs.filter p)))):ZE (Itl K a) idx tt te σ Q H:=by
 refine ⟨fun i m ys H'=>m=xs.length - i/\i<=xs.length/\H'=H/\ys=(xs.take i).filter p,⟨xs.length,by simp,Nat.zero_le _,rfl,by simp⟩,?_⟩
 rintro i m ys H' ⟨rfl,hi,rfl,rfl⟩
 refine ⟨Nat.le_trans (List.length_filter_le _ _) (by rw [List.length_take]; omega),?_⟩
 by_cases hlt:i < xs.length
 ·refine .inr ⟨⟨xs,xs[i],hl,by simp [hlt]⟩,fun y H' yl=>?_⟩
  obtain ⟨e,yl⟩:=yl
  subst e
  have hy:=yl xs hl
  have hm:y∈xs:=List.mem_of_getElem? hy
  have tk:=take_succ_filter p xs i y hy
  refine ht y hm _ ?_
  cases hp:p y with
  |true=>
   rw [hp] at tk
   rw [if_pos rfl]
   exact he y hm _ ⟨xs.length - (i+1),by omega,rfl,hlt,rfl,by rw [tk]; rfl⟩
  |false=>
   rw [hp] at tk
   rw [if_neg (by decide)]
   exact ⟨xs.length - (i+1),by omega,rfl,hlt,rfl,by rw [tk]; simp⟩
 ·have e:i=xs.length:=by omega
  subst e
  refine .inl ⟨⟨xs,hl,Nat.le_refl _⟩,?_⟩
  rw [List.take_length]
  exact hd
end
theorem atI_z {xs:List V} {j:Nat} {x:V} (h:xs[j]?=some x):atI xs (0+(j:Int))=some x:=by
 rw [Int.zero_add]
 exact zr h
section
variable {K:PySem.W.Frag} {te:TE} {tt:TT} {σ:L2.St} {H:Hp} {Q:VK} {idx:List Nat} {n:Nat}
end
section
variable {K:PySem.W.Frag} {H:Hp} {m n:Nat} {x:V} {b:Bod}
end
section
variable {B C:Int} {x y:Rat}
end
end Kw
namespace Kw
end Kw
namespace Kw
end Kw
namespace Kw
open PySem PySem.Spec PyProof.Rows L2
section
variable {X:Cx}
def rBits:V->List V->Hp->VK->Prop:=fun x vs H Q=>∃ i:Int,x=.int i/\vs=[]/\Q (.int ((Builtin.Int.intBits i:Nat):Int)) H
theorem mt_bits:MtR X "int.bit_length" rBits:=by
 intro pins s σ H x vs v us Q I rx rv h
 obtain ⟨i,rfl,rfl,q⟩:=h
 obtain ⟨t,rfl⟩:=rx
 cases rv
 exact call_gives PySem.F.slot_int_bit_length (typeIs_int s i t) PySem.F.entry_int_bit_length (PySem.F.args_int_bit_length_1 _) (PySem.AutoIntG2.int_bit_length_int_0 i t) ⟨.int ((Builtin.Int.intBits i:Nat):Int),H,I.tok _,⟨_,rfl⟩,q⟩
end
def Jn:Sp:=fun vs H Q _=>∃ a b:Int,vs=[.int a,.int b]/\Bd 4000 b/\Q (.int ((Int.gcd a b:Nat):Int)) H
theorem short_min {a b:Int} (h:Bd 4000 b):¬ (((Builtin.Int.intBits (if (if b < 0 then -b else b) < (if a < 0 then -a else a) then (if b < 0 then -b else b) else (if a < 0 then -a else a)):Nat):Int) > 4000):=by
 have l:Bd 4000 (if (if b < 0 then -b else b) < (if a < 0 then -a else a) then (if b < 0 then -b else b) else (if a < 0 then -a else a)):=by
  refine h.of_le ?_
  split<;>split<;>(try split)<;>omega
 have:=l.bits
 omega
theorem q_invp {y:Rat} (h:0 < y.num):(y⁻¹).num=((y.den:Nat):Int)/\(((y⁻¹).den:Nat):Int)=y.num:=by
 have e:y⁻¹=Rat.inv y:=rfl
 rw [e]
 unfold Rat.inv
 rw [dif_neg (by omega),dif_pos h]
 exact ⟨rfl,by show ((y.num.natAbs:Nat):Int)=y.num; omega⟩
theorem q_invn {y:Rat} (h:y.num < 0):(y⁻¹).num=-((y.den:Nat):Int)/\(((y⁻¹).den:Nat):Int)=-y.num:=by
 have e:y⁻¹=Rat.inv y:=rfl
 rw [e]
 unfold Rat.inv
 rw [dif_pos h]
 exact ⟨rfl,by show ((y.num.natAbs:Nat):Int)=-y.num; omega⟩
theorem FB.inv {n:Nat} {y:Rat} (h:FB n y) (y0:y≠0):FB n y⁻¹:=(FB.fit (Zp y0) h.2 h.1).cast (q_inv y)
def mixS (u v:Rat) (m w:Int) (s:Rat):Rat:=u * Rat.divInt (m * ((s.den:Nat):Int) - w * s.num) ((m+w) * ((s.den:Nat):Int))+v * Rat.divInt (w * (((s.den:Nat):Int)+s.num)) ((m+w) * ((s.den:Nat):Int))
theorem mixS_one (u v:Rat) (m w:Int):mixS u v m w ((1:Int):Rat)=mixQ u v m w:=by
 have e1:(((1:Int):Rat)).num=1:=rfl
 have e2:(((((1:Int):Rat)).den:Nat):Int)=1:=rfl
 unfold mixS mixQ
 rw [e1,e2]
 simp only [Int.mul_one]
 rw [show w * (1+1)=2 * w by omega]
theorem Ja {m w:Int} {s:Rat} (hm:1<=m) (hw:1<=w):(m+w) * ((s.den:Nat):Int)≠0:=Int.mul_ne_zero (by omega) (q_ne s)
end Kw
namespace Kw
end Kw
namespace Kw
open PySem PySem.Spec PyProof.Rows L2
theorem atI_neg {xs:List V} {k:Nat} {x:V} (h1:1<=k) (h2:k<=xs.length) (e:xs[xs.length - k]?=some x):atI xs (-(k:Int))=some x:=by
 have z:ixN xs.length (-(k:Int))=some (xs.length - k):=by
  unfold ixN
  rw [if_neg (by omega),if_pos (by omega)]
  congr 1
  omega
 unfold atI
 rw [z]
 exact e
section
variable {S:V->Prop} {lt:V->V->Bool} {x y:V} {row:List V}
end
section
variable {K:PySem.W.Frag} {H H':Hp} {c:Addr} {x:V} {k k':Int × Int} {xs ys:List V} {key:V->Int × Int}
end
section
variable {K:PySem.W.Frag} {H H':Hp} {b c:Addr} {x:V} {xs ys:List V}
end
theorem g_go {i:Nat} {x:V} {σ:L2.St} {H:Hp} {Q:L2.St->Hp->Prop} (h:Q (σ.set i (some x)) H):gName i x σ H Q:=h
section
variable {idx:List Nat} {tt:TT} {te:TE} {σ:L2.St} {H:Hp} {Q:VK}
end
theorem vals_ints:∀ {ns:List Int} {us:List Value},Vals (ns.map V.int) us->IntsAre us ns
 |[],[],_=>.nil
 |n::ns,u::us,h=>by
  cases h with
  |cons r t=>
   obtain ⟨k,rfl⟩:=r
   exact .cons n k (vals_ints t)
theorem J9:∀ (us:List Value) (k:Nat),(∀ (j:Nat) (v:Value),us[j]?=some v->∃ t,v=Value.int ((0:Int)+((k+j:Nat):Int) * 1) t)->Vals ((List.range' k us.length).map fun i:Nat=>V.int (i:Int)) us
 |[],_,_=>.nil
 |u::us,k,h=>by
  obtain ⟨t,e⟩:=h 0 u rfl
  have ih:=J9 us (k+1) fun j v hj=>by
   obtain ⟨t',e'⟩:=h (j+1) v hj
   exact ⟨t',by rw [e']; congr 2; omega⟩
  refine .cons ⟨t,?_⟩ ih
  rw [e]
  congr 1
  omega
section
variable {X:Cx}
def tLR (ta:TA):TE:=fun σ H Q=>ta σ H fun vs H1=>∃ n:Nat,vs=[.int (n:Int)]/\n<=1000/\∀ l,H1 l=none->Q (.ref l) (upd H1 l (.lst ((List.range n).map fun i:Nat=>V.int (i:Int))))
theorem pe_listRange {a:Expr} {ta:TA} {p p2 pos pos2:Pos} (hc:X.calm=true) (hgl:Gl X "list") (hml:X.mg "list"=none) (hgr:Gl X "range") (hmr:X.mg "range"=none) (ha:PA X [a] ta)
  (hs:starEach [a] X.env=[(false,eval a X.env)]:=by rfl) (hs2:starEach [.Call (.Name "range" p2) [a] [] pos2] X.env=[(false,eval (.Call (.Name "range" p2) [a] [] pos2) X.env)]:=by rfl) :
  PE X (.Call (.Name "list" p) [.Call (.Name "range" p2) [a] [] pos2] [] pos) (tLR ta):=by
 intro pins s σ H Q I h
 refine wpAny_Call_Name_kw (YI I hgl hml PyProof.Rows.Boot.«list» ?_)
 refine PyProof.Rows.callWith_type1 ?_ hs2 rfl
 rw [hs2]
 show wpAny _ _ (spliced ((false,eval (.Call (.Name "range" p2) [a] [] pos2) X.env)::[])) _ _ s
 refine Calls.spliced_cons ?_
 refine wpAny_Call_Name_kw (YI I hgr hmr boot_range ?_)
 refine PyProof.Rows.callWith_type1 (thn (ha pos2 pins s σ H _ I h) fun us s1 ⟨vs,H1,I1,r1,n,e,hn,q⟩=>?_) hs rfl
 subst e
 cases r1 with
 |cons r rr=>
  cases rr
  obtain ⟨t,rfl⟩:=r
  refine call_range_1 ?_
  refine Calls.spliced_nil ?_
  have I2:Inv X pins σ H1 {s1 with heap:=s1.heap.push {cls:=.type "range",data:=.fields #[.int 0 s1.toks,.int (n:Int) t,.int 1 (s1.toks+1)]},toks:=s1.toks+1+1}:=I1.kept fun b o e=>Heap.get?_push_of_some _ e
  refine call_list_range (n:=n) (I.ok.hd hc) (IsRange.new ..) (small_one (by decide) (by decide) (by omega) (by omega)) ?_ (Nat.le_trans hn (by decide)) fun h' tk acc' c' kp e items=>?_
  ·rw [rangeSize_one]
   split<;>omega
  obtain ⟨i1,i2⟩:=items
  have v:Vals ((List.range n).map fun i:Nat=>V.int (i:Int)) acc'.toList:=by
   have z:=J9 acc'.toList 0 fun j v hj=>by
    rw [Array.getElem?_toList] at hj
    obtain ⟨t',e'⟩:=i2 j v hj
    exact ⟨t',by rw [e',Nat.zero_add]⟩
   rw [Array.length_toList,i1] at z
   rw [List.range_eq_range']
   exact z
  refine ⟨.ref _,_,I2.laid (t':=tk) kp (Nat.le_refl _) ?_,rfl,q _ (I2.hok.fresh (Nat.le_refl _))⟩
  refine ⟨?_,acc'.toList,c',v,?_⟩
  ·rw [List.length_map,List.length_range]
   exact Nat.le_trans hn (by decide)
  ·rw [e,Array.toArray_toList]
end
section
variable {X:Cx} {pos:Pos}
end
end Kw
namespace L2
open PySem PySem.Spec PyProof.Rows
section
variable {κ:Type} [DecidableEq κ]
def valV (kvs:List (κ × V)) (k:κ):Option V:=(kvs.find? fun kv=>decide (kv.1=k)).map (·.2)
def putK (kvs:List (κ × V)) (k:κ) (v:V):List (κ × V):=
 if (kvs.any fun kv=>decide (kv.1=k))=true then kvs.map (fun kv=>if kv.1=k then (kv.1,v) else kv) else kvs++[(k,v)]
theorem Ye {p:κ × V} {r:List (κ × V)} {k:κ} (e:p.1=k):valV (p::r) k=some p.2:=by simp [valV,List.find?_cons,e]
theorem Yp {p:κ × V} {r:List (κ × V)} {k:κ} (e:¬ p.1=k):valV (p::r) k=valV r k:=by simp [valV,List.find?_cons,e]
theorem valV_any (k:κ):∀ kvs:List (κ × V),(kvs.any fun kv=>decide (kv.1=k))=(valV kvs k).isSome
 |[]=>rfl
 |p::r=>by
  rw [List.any_cons]
  by_cases e:p.1=k
  ·simp only [Ye e,decide_eq_true e,Bool.true_or,Option.isSome_some]
  ·rw [Yp e,decide_eq_false e,Bool.false_or]; exact valV_any k r
theorem jj (kvs:List (κ × V)) (k:κ) (v:V):(putK kvs k v).length<=kvs.length+1:=by
 unfold putK
 split
 ·rw [List.length_map]; omega
 ·rw [List.length_append,List.length_cons,List.length_nil]; omega
theorem RelO.isSome_eq {o:Option V} {u:Option Value} (r:RelO o u):o.isSome=u.isSome:=by
 cases o with
 |none=>cases u with
  |none=>rfl
  |some _=>exact (show False from r).elim
 |some _=>cases u with
  |none=>exact (show False from r).elim
  |some _=>rfl
theorem KV.val {kvs:List (κ × V)} {vs:List (κ × Value)} (r:KV kvs vs) (k:κ):RelO (valV kvs k) (valueAt vs k):=by
 unfold KV at r
 induction r with
 |nil=>exact True.intro
 |@cons p q ps qs h t ih=>
  obtain ⟨h1,h2⟩:=h
  by_cases e:p.1=k
  ·have e':q.1=k:=h1.symm.trans e
   have b:valueAt (q::qs) k=some q.2:=by simp [valueAt,List.find?_cons,e']
   rw [Ye e,b]; exact h2
  ·have e':¬ q.1=k:=fun z=>e (h1.trans z)
   have b:valueAt (q::qs) k=valueAt qs k:=by simp [valueAt,List.find?_cons,e']
   rw [Yp e,b]; exact ih
theorem KV.any {kvs:List (κ × V)} {vs:List (κ × Value)} (r:KV kvs vs) (k:κ):(kvs.any fun kv=>decide (kv.1=k))=vs.any fun kv=>decide (kv.1=k):=by
 unfold KV at r
 induction r with
 |nil=>rfl
 |cons h t ih=>rw [List.any_cons,List.any_cons,ih,h.1]
theorem KV.repl {kvs:List (κ × V)} {vs:List (κ × Value)} (r:KV kvs vs) (k:κ) {y:V} {u:Value} (ry:RelV y u) :
  KV (kvs.map fun kv=>if kv.1=k then (kv.1,y) else kv) (vs.map fun kv=>if kv.1=k then (kv.1,u) else kv):=by
 unfold KV at r ⊢
 induction r with
 |nil=>exact .nil
 |@cons p q ps qs h t ih=>
  rw [List.map_cons,List.map_cons]
  refine .cons ?_ ih
  obtain ⟨h1,h2⟩:=h
  by_cases e:p.1=k
  ·rw [if_pos e,if_pos (h1.symm.trans e)]; exact ⟨h1,ry⟩
  ·rw [if_neg e,if_neg (fun z=>e (h1.trans z))]; exact ⟨h1,h2⟩
theorem KV.put {kvs:List (κ × V)} {vs:List (κ × Value)} (r:KV kvs vs) (k:κ) {y:V} {u:Value} (ry:RelV y u):KV (putK kvs k y) (stored vs k u):=by
 unfold putK stored
 rw [r.any k]
 by_cases e:(vs.any fun kv=>decide (kv.1=k))=true
 ·rw [if_pos e,if_pos e]; exact r.repl k ry
 ·rw [if_neg e,if_neg e]; exact Paired.snoc r ⟨rfl,ry⟩
theorem KV.length {kvs:List (κ × V)} {vs:List (κ × Value)} (r:KV kvs vs):kvs.length=vs.length:=Paired.length r
end
theorem kV_is {P:Program} {w:World} {k:Key} {u:Value} (r:RelV (kV k) u):(yE P w).is k u=true:=by
 cases k with
 |inl i=>obtain ⟨t,e⟩:=(show ∃ t,u=Value.int i t from r); subst e; exact mixKind_int P w i t
 |inr x=>obtain ⟨t,e⟩:=(show ∃ t,u=Value.str x t from r); subst e; exact mixKind_str P w x t
theorem items_are {P:Program} {w:World}:∀ {ks:List Key} {us:List Value},Vals (ks.map kV) us->ItemsAre (yE P w) ks us
 |[],_,r=>by rw [List.map_nil] at r; cases r; exact .nil
 |k::ks,_,r=>by
  rw [List.map_cons] at r
  cases r with
  |cons h t=>exact .cons (kV_is h) (items_are t)
abbrev KT (H:Hp):List (List Key × V)->List (List Key × Addr × Value)->Prop:=Paired fun p q=>p.1=q.1/\H q.2.1=some (.tup (p.1.map kV))/\RelV p.2 q.2.2
theorem KT.val {H:Hp} {kvs:List (List Key × V)} {xs:List (List Key × Addr × Value)} (r:KT H kvs xs) (k:List Key):RelO (valV kvs k) ((atKey xs k).map (·.2)):=by
 induction r with
 |nil=>exact True.intro
 |@cons p q ps qs h t ih=>
  obtain ⟨h1,_,h2⟩:=h
  by_cases e:p.1=k
  ·have e':q.1=k:=h1.symm.trans e
   have b:atKey (q::qs) k=some q.2:=by simp [atKey,List.find?_cons,e']
   rw [Ye e,b]; exact h2
  ·have e':¬ q.1=k:=fun z=>e (h1.trans z)
   have b:atKey (q::qs) k=atKey qs k:=by simp [atKey,List.find?_cons,e']
   rw [Yp e,b]; exact ih
theorem KT.repl {H:Hp} {kvs:List (List Key × V)} {xs:List (List Key × Addr × Value)} (r:KT H kvs xs) (k:List Key) {y:V} {u:Value} (ry:RelV y u) :
  KT H (kvs.map fun kv=>if kv.1=k then (kv.1,y) else kv) (xs.map (putAt k u)):=by
 induction r with
 |nil=>exact .nil
 |@cons p q ps qs h t ih=>
  rw [List.map_cons,List.map_cons]
  refine .cons ?_ ih
  obtain ⟨h1,h2,h3⟩:=h
  unfold putAt
  by_cases e:p.1=k
  ·rw [if_pos e,if_pos (h1.symm.trans e)]; exact ⟨h1,h2,ry⟩
  ·rw [if_neg e,if_neg (fun z=>e (h1.trans z))]; exact ⟨h1,h2,h3⟩
theorem KT.put {H:Hp} {kvs:List (List Key × V)} {xs:List (List Key × Addr × Value)} (r:KT H kvs xs) (k:List Key) {b:Addr} {y:V} {u:Value} (hb:H b=some (.tup (k.map kV))) (ry:RelV y u) :
  KT H (putK kvs k y) (storedH xs k b u):=by
 have e:(kvs.any fun kv=>decide (kv.1=k))=(atKey xs k).isSome:=by
  rw [valV_any,(r.val k).isSome_eq,Option.isSome_map]
 unfold putK storedH
 rw [e]
 by_cases q:(atKey xs k).isSome=true
 ·rw [if_pos q,if_pos q]; exact r.repl k ry
 ·rw [if_neg q,if_neg q]; exact Paired.snoc r ⟨rfl,hb,ry⟩
theorem KT.keeps {H H':Hp} {kvs:List (List Key × V)} {xs:List (List Key × Addr × Value)} (r:KT H kvs xs) (ht:∀ b ys,H b=some (.tup ys)->H' b=some (.tup ys)):KT H' kvs xs:=
 Paired.mapP r fun _ _ z=>⟨z.1,ht _ _ z.2.1,z.2.2⟩
section
variable {P:Program} {w:World} {H:Hp} {h:Heap} {a:Addr}
theorem rd_of {u:HO} (ok:HOk P w H h) (e:Rd H a u):zp P w H h a u:=e.ok ok
theorem dk_rd {kvs:List (Key × V)} (ok:HOk P w H h) (e:Rd H a (.dK kvs)):kvs.length<=sizeLine/\(a == sysModules)=false/\∃ vs,KV kvs vs/\h.DictOf (yE P w) a vs:=
 show zp P w H h a (.dK kvs) from rd_of ok e
theorem dk_of {kvs:List (Key × V)} (ok:HOk P w H h) (e:H a=some (.dK kvs)):kvs.length<=sizeLine/\(a == sysModules)=false/\∃ vs,KV kvs vs/\h.DictOf (yE P w) a vs:=dk_rd ok (.inl e)
theorem key_of {ks:List Key} (ok:HOk P w H h) (e:H a=some (.tup (ks.map kV))):(tupleKind (yE P w)).is h ks a:=by
 obtain ⟨_,its,r,o,h1,h2,n,h3⟩:=(show zp P w H h a (.tup (ks.map kV)) from ok a _ e)
 exact ⟨o,its.toArray,n,h1,h2,h3,by simpa using items_are r⟩
theorem dt_rd {kvs:List (List Key × V)} (ok:HOk P w H h) (e:Rd H a (.dT kvs)):kvs.length<=sizeLine/\(a == sysModules)=false/\
  ∃ xs,KT H kvs xs/\h.DictOfH (tupleKind (yE P w)) a xs:=by
 obtain ⟨z,y,xs,r,o,es,ep,h1,h2,h3,h4,h5⟩:=(show zp P w H h a (.dT kvs) from rd_of ok e)
 refine ⟨z,y,xs,r,o,es,ep,h1,h2,h3,h4,fun x hx=>?_,h5⟩
 have all:∀ {l:List (List Key × V)} {m:List (List Key × Addr × Value)},KT H l m->∀ x∈m,(tupleKind (yE P w)).is h x.1 x.2.1:=by
  intro l m q
  induction q with
  |nil=>intro x hx; exact nomatch hx
  |@cons p q ps qs hq t ih=>
   intro x hx
   rcases List.mem_cons.mp hx with e|hx
   ·subst e
    exact key_of ok (by rw [<- hq.1]; exact hq.2.1)
   ·exact ih x hx
 exact all r x hx
theorem dt_of {kvs:List (List Key × V)} (ok:HOk P w H h) (e:H a=some (.dT kvs)):kvs.length<=sizeLine/\(a == sysModules)=false/\
  ∃ xs,KT H kvs xs/\h.DictOfH (tupleKind (yE P w)) a xs:=dt_rd ok (.inl e)
end
def DGet (H:Hp) (a:Addr) (y:V) (r:Option V):Prop:=
 (∃ kvs k,Rd H a (.dK kvs)/\y=kV k/\r=valV kvs k)\/∃ kvs k b,Rd H a (.dT kvs)/\y=.ref b/\H b=some (.tup (k.map kV))/\r=valV kvs k
def DPut (H:Hp) (a:Addr) (y v:V) (H':Hp):Prop:=
 (∃ kvs k,H a=some (.dK kvs)/\y=kV k/\kvs.length < sizeLine/\H'=upd H a (.dK (putK kvs k v)))\/
 ∃ kvs k b,H a=some (.dT kvs)/\y=.ref b/\H b=some (.tup (k.map kV))/\kvs.length < sizeLine/\H'=upd H a (.dT (putK kvs k v))
theorem DGet.t {H:Hp} {a b:Addr} {kvs:List (List Key × V)} {k:List Key} (e:H a=some (.dT kvs)) (eb:H b=some (.tup (k.map kV))):DGet H a (.ref b) (valV kvs k):=.inr ⟨kvs,k,b,.inl e,rfl,eb,rfl⟩
theorem DPut.t {H:Hp} {a b:Addr} {kvs:List (List Key × V)} {k:List Key} {v:V} (e:H a=some (.dT kvs)) (eb:H b=some (.tup (k.map kV))) (hl:kvs.length < sizeLine) :
  DPut H a (.ref b) v (upd H a (.dT (putK kvs k v))):=.inr ⟨kvs,k,b,e,rfl,eb,hl,rfl⟩
section
variable {X:Cx} {pins:List (Addr × Obj)} {σ:St} {H:Hp} {s:Shared} {a:Addr} {y v:V} {u r:Value} {o:Option V} {A:Around} {E:Value->Shared->Prop}
theorem Inv.big (I:Inv X pins σ H s):sysModules < s.heap.objs.size:=by
 have h:mainGlobals < s.heap.objs.size:=(I.mod.glob.keeps I.bk).lt
 exact Nat.lt_trans (by decide) h
theorem d_getItem {Q:Value->Shared->Prop} (hu:A.units+1 < cLine) (I:Inv X pins σ H s) (g:DGet H a y (some v)) (ry:RelV y u) (h:∀ w' s',Inv X pins σ H s'->RelV v w'->Q w' s') :
  wpAny (model X.prog X.w) A (getItem (.ref a) u) Q E s:=by
 rcases g with ⟨kvs,k,e,ey,l⟩|⟨kvs,k,b,e,ey,eb,l⟩
 ·subst ey
  obtain ⟨z,hd,vs,rel,dd⟩:=dk_rd I.hok e
  obtain ⟨w',hw,rw'⟩:=RelO.some_of (v:=v) (o:=valueAt vs k) (by rw [l]; exact rel.val k)
  exact wpAny_getItem_of (kV_is ry) dd.mapOf hw (h w' _ (I.tok _) rw')
 ·subst ey
  cases (show u=Value.ref b from ry)
  obtain ⟨z,hd,xs,rel,dd⟩:=dt_rd I.hok e
  obtain ⟨w',hw,rw'⟩:=RelO.some_of (v:=v) (o:=(atKey xs k).map (·.2)) (by rw [l]; exact rel.val k)
  obtain ⟨p,hp,hp2⟩:=Option.map_eq_some_iff.mp hw
  refine wpAny_getItem_heap (tupleKind_room_in1 hu) (key_of I.hok eb) dd hp ?_
  rw [hp2]
  exact h w' _ (I.tok _) rw'
theorem JV {h':Heap} {t':Nat} {ob:HO} (I:Inv X pins σ H s) (mu:Mut (H a)) (hs:Heap.SameBut a s.heap h') (he:∃ q,h'.get? a=some q) (new:zp X.prog X.w (upd H a ob) h' a ob) :
  Inv X pins σ (upd H a ob) {s with heap:=h',toks:=t'}:=
 I.write (x:=a) (e:=a) mu (.inl rfl) (fun b q hb z=>(hs.2 b hb).trans z) he new
theorem dk_new {P:Program} {w:World} {H':Hp} {h':Heap} {kvs:List (Key × V)} {vs:List (Key × Value)} (z:kvs.length<=sizeLine) (hd:(a == sysModules)=false) (rel:KV kvs vs) (dd:h'.DictOf (yE P w) a vs) :
  zp P w H' h' a (.dK kvs):=⟨z,hd,vs,rel,dd⟩
theorem d_setItem {H':Hp} {Q:Unit->Shared->Prop} (hu:A.units+1 < cLine) (I:Inv X pins σ H s) (g:DPut H a y v H') (ry:RelV y u) (rv:RelV v r) (h:∀ s',Inv X pins σ H' s'->Q () s') :
  wpAny (model X.prog X.w) A (setItem (.ref a) u r) Q E s:=by
 rcases g with ⟨kvs,k,e,ey,l,eH⟩|⟨kvs,k,b,e,ey,eb,l,eH⟩
 ·subst ey eH
  obtain ⟨z,hd,vs,rel,dd⟩:=dk_of I.hok e
  have hz:vs.length<=sizeLine:=by rw [<- rel.length]; exact z
  have hl:(putK kvs k v).length<=sizeLine:=by have:=jj kvs k v; omega
  refine wpAny_setItem_pairs (hsz:=hz) (kV_is ry) dd fun h' dd' hs=>h _ ?_
  have he:∃ q,h'.get? a=some q:=let ⟨q,_,_,hq,_⟩:=dd'; ⟨q,hq⟩
  exact JV I (by rw [e]; exact True.intro) hs he (dk_new hl hd (rel.put k rv) dd')
 ·subst ey eH
  cases (show u=Value.ref b from ry)
  obtain ⟨z,hd,xs,rel,dd⟩:=dt_of I.hok e
  have hz:xs.length<=sizeLine:=by rw [<- Paired.length rel]; exact z
  have hl:(putK kvs k v).length<=sizeLine:=by have:=jj kvs k v; omega
  refine wpAny_setItem_heap (hsz:=hz) (tupleKind_room_in1 hu) (key_of I.hok eb) dd fun h' dd' hs=>h _ ?_
  obtain ⟨q,es,ep,hq,h2,h3,h4,_,h5⟩:=dd'
  refine JV I (by rw [e]; exact True.intro) hs ⟨q,hq⟩ ⟨hl,hd,_,(rel.put k eb rv).keeps fun c ys ec=>?_,q,es,ep,hq,h2,h3,h4,h5⟩
  rw [zX (zw ec e (fun z=>nomatch z))]
  exact ec
end
section
variable {X:Cx} {pins:List (Addr × Obj)} {σ:St} {H:Hp} {s:Shared} {a:Addr} {kvs:List (Key × V)} {k:Key} {u:Value} {A:Around} {E:Value->Shared->Prop}
end
def NoSl (i:Expr):Prop:=∀ ov iv,subscripted i false ov iv=operate [ov,iv] (getItem ov iv)
theorem subD_of {prog:Program} {w:World} {A:Around} {E:Value->Shared->Prop} {s:Shared} {env:Env} {value slice:Expr} {pos:Pos} {T id:String} {Q:Value->Shared->Prop}
  (hl:typeLookup (.type T) "__getitem__"=pure (some (.builtin id))) (hs:NoSl slice)
  (h:wpAny (model prog w) A (eval value env) (fun o s₁=>wpAny (model prog w) A (eval slice env) (fun i s₂=>s₂.TypeIs o T/\wpAny (model prog w) A (getItem o i) Q E s₂) E s₁) E s) :
  wpAny (model prog w) A (eval (.Subscript value slice pos) env) Q E s:=by
 refine Subscript_ (wpAny_mono h (fun o s₁ h₁=>wpAny_mono h₁ (fun i s₂ h₂=>?_) fun _ _ x=>x) fun _ _ x=>x)
 obtain ⟨hT,h₂⟩:=h₂
 unfold subscriptTail
 refine wpAny_bind ?_
 rw [getitemInPython_of_ne hT.not_modules]
 refine wpAny_bind (wpAny_specialOf hT hl ?_)
 have fin:wpAny (model prog w) A (subscripted slice false o i) (fun r s₃=>wpAny (model prog w) A (letTemporaryGo value o r >>= fun _=>pure r) Q E s₃) E s₂:=by
  rw [hs o i]
  exact wpAny_operating (wpAny_mono h₂ (fun r s₃ h₃=>wpAny_bind (wpAny_letTemporaryGo (wpAny_pure h₃))) fun _ _ x=>x)
 first
  |exact wpAny_pure (wpAny_bind fin)
  |exact wpAny_bind (wpAny_pure (wpAny_bind fin))
  |exact wpAny_bind fin
theorem dict_typeIs {X:Cx} {pins:List (Addr × Obj)} {σ:St} {H:Hp} {s:Shared} {a:Addr} {y:V} {o:Option V} (I:Inv X pins σ H s) (g:DGet H a y o):s.TypeIs (.ref a) "dict":=by
 rcases g with ⟨kvs,k,e,_,_⟩|⟨kvs,k,b,e,_,_,_⟩
 ·obtain ⟨_,_,vs,_,dd⟩:=dk_rd I.hok e
  exact dd.typeIs
 ·obtain ⟨_,_,xs,_,dd⟩:=dt_rd I.hok e
  exact dd.typeIs
def tDGet (td ty:TE):TE:=fun σ H Q=>td σ H fun x H1=>ty σ H1 fun y H2=>∃ a v,x=.ref a/\DGet H2 a y (some v)/\Q v H2
def sDPut (td ty tv:TE):TS:=fun D σ H=>tv σ H fun v H1=>td σ H1 fun x H2=>ty σ H2 fun y H3=>∃ a H4,x=.ref a/\DPut H3 a y v H4/\D.nx σ H4
section
variable {X:Cx} {o i e value:Expr} {pos pos' tpos:Pos} {td ty tv:TE}
theorem ZS (hu:X.A.units+1 < cLine) (ho:PE X o td) (hi:PE X i ty) (hs:NoSl i):PE X (.Subscript o i pos) (tDGet td ty):=by
 intro pins s σ H Q I h
 refine subD_of PySem.F.slot_dict_getitem.lookup hs (thn (ho pins s σ H _ I h) fun u s1 ⟨x,H1,I1,rx,q1⟩=>thn (hi pins s1 σ H1 _ I1 q1) fun iv s2 zz=>?_)
 obtain ⟨y,H2,I2,ry,a,v,ex,g,q2⟩:=zz
 subst ex
 obtain rfl:u=Value.ref a:=rx
 exact ⟨dict_typeIs I2 g,d_getItem hu I2 g ry fun w' s3 I3 rw'=>⟨v,H2,I3,rw',q2⟩⟩
theorem ps_dput (hu:X.A.units+1 < cLine) (ho:PE X o td) (hi:PE X i ty) (hv:PE X value tv) (hs:swapsWith value (some (.Subscript o i pos')) pos.line X.env=pure false) :
  PS X (.Assign [.Subscript o i pos'] value pos) (sDPut td ty tv):=by
 intro pins s σ H D I h
 refine wpAny_Assign_Subscript (thn (hv pins s σ H _ I h) fun r s1 ⟨v,H1,I1,rv,q1⟩=>thn (ho pins s1 σ H1 _ I1 q1) fun u s2 ⟨x,H2,I2,rx,q2⟩=>thn (hi pins s2 σ H2 _ I2 q2) fun iv s3 ⟨y,H3,I3,ry,a,H4,ex,g,q3⟩=>?_) hs
 subst ex
 obtain rfl:u=Value.ref a:=rx
 exact d_setItem hu I3 g ry rv fun s4 I4=>⟨σ,H4,I4,q3⟩
end
theorem dt_empty {P:Program} {w:World} {H:Hp} (h:Heap) (hb:sysModules < h.objs.size):zp P w H (h.push {cls:=.type "dict",data:=.dict #[]}) h.objs.size (.dT []):=
 ⟨Nat.zero_le _,beq_eq_false_iff_ne.mpr (Ne.symm (Nat.ne_of_lt hb)),[],.nil,_,#[],0,Heap.get?_push_size _ rfl,⟨rfl,rfl,rfl⟩,rfl,rfl,List.nodup_nil⟩
def tDNewT:TE:=fun _ H Q=>∀ p,H p=none->Q (.ref p) (upd H p (.dT []))
section
variable {X:Cx} {pos:Pos}
theorem pe_dnewT:PE X (.Dict [] [] pos) tDNewT:=fun pins s σ H Q I h=>
 wpAny_Dict_empty ⟨.ref s.heap.objs.size,_,I.laid (a:=s.heap.objs.size) (o:=.dT []) (t':=s.toks) (fun _ _ q=>Heap.get?_push_of_some _ q) (Nat.le_refl _) (dt_empty s.heap I.big),rfl,h _ (I.hok.fresh (Nat.le_refl _))⟩
end
end L2
namespace Kw
open PySem PySem.Spec PyProof.Rows L2
theorem dvLow {t b m:Int} (hb:0 < b) (h:m * b<=t):(m:Rat)<=Rat.divInt t b:=by
 rw [Rat.divInt_eq_div]
 have b0:(0:Rat) < (b:Rat):=Rat.intCast_lt_intCast.mpr hb
 refine Rat.not_lt.mp fun c=>?_
 have e:(t:Rat) / b * b=t:=Rat.div_mul_cancel (Rat.ne_of_gt b0)
 have c2:=Rat.mul_lt_mul_of_pos_right c b0
 rw [e,<- Rat.intCast_mul] at c2
 have:=Rat.intCast_lt_intCast.mp c2
 omega
theorem dvLt {t b m:Int} (hb:0 < b) (h:t < m * b):Rat.divInt t b < (m:Rat):=by
 rw [Rat.divInt_eq_div]
 have b0:(0:Rat) < (b:Rat):=Rat.intCast_lt_intCast.mpr hb
 refine Rat.not_le.mp fun c=>?_
 have e:(t:Rat) / b * b=t:=Rat.div_mul_cancel (Rat.ne_of_gt b0)
 have c2:=Rat.mul_le_mul_of_nonneg_right c (Rat.le_of_lt b0)
 rw [e,<- Rat.intCast_mul] at c2
 have:=Rat.intCast_le_intCast.mp c2
 omega
theorem fl_dv {a b:Int} (hb:0 < b):((a.fdiv b:Int):Rat)<=Rat.divInt a b/\Rat.divInt a b < ((a.fdiv b:Int):Rat)+1:=by
 have e:a.fdiv b=a / b:=Int.fdiv_eq_ediv_of_nonneg _ (by omega)
 have h1:=Int.mul_ediv_add_emod a b
 have h2:=Int.emod_nonneg a (Int.ne_of_gt hb)
 have h3:=Int.emod_lt_of_pos a hb
 refine ⟨dvLow hb ?_,?_⟩
 ·rw [e,Int.mul_comm]
  omega
 ·have z:Rat.divInt a b < ((a.fdiv b+1:Int):Rat):=by
   refine dvLt hb ?_
   rw [e,Int.add_mul,Int.one_mul,Int.mul_comm (a / b)]
   omega
  rw [Rat.intCast_add] at z
  exact z
theorem q_numpos {y:Rat} (h:0 < y):0 < y.num:=by
 have z:=(q_lt 0 y).mp h
 have e1:(0:Rat).num=0:=rfl
 have e2:(0:Rat).den=1:=rfl
 rw [e1,e2] at z
 omega
theorem q_numneg {y:Rat}:y.num < 0↔y < 0:=by
 have z:=q_lt y 0
 have e1:(0:Rat).num=0:=rfl
 have e2:(0:Rat).den=1:=rfl
 rw [e1,e2] at z
 refine ⟨fun h=>z.mpr (by omega),fun h=>?_⟩
 have:=z.mp h
 omega
theorem led_in {x y:Rat} {k:Int} (hy:0 < y) (h1:(k:Rat)<=x / y) (h2:x / y < (k:Rat)+1):0<=x - k * y/\x - k * y < y:=by
 have e:x / y * y=x:=Rat.div_mul_cancel (Rat.ne_of_gt hy)
 have c1:=Rat.mul_le_mul_of_nonneg_right h1 (Rat.le_of_lt hy)
 have c2:=Rat.mul_lt_mul_of_pos_right h2 hy
 rw [e] at c1 c2
 grind
theorem fl_div {x y:Rat} (hy:0 < y):0<=x - ((Int.fdiv (x.num * (y.den:Int)) ((x.den:Int) * y.num):Int):Rat) * y/\x - ((Int.fdiv (x.num * (y.den:Int)) ((x.den:Int) * y.num):Int):Rat) * y < y:=by
 have b0:0 < (x.den:Int) * y.num:=Int.mul_pos (by have:=x.den_pos; omega) (q_numpos hy)
 have z:=fl_dv (a:=x.num * (y.den:Int)) b0
 rw [q_div] at z
 exact led_in hy z.1 z.2
theorem fl_own {x y:Rat} (hy:0 < y):0<=x - (((x / y).num.fdiv ((x / y).den:Int):Int):Rat) * y/\x - (((x / y).num.fdiv ((x / y).den:Int):Int):Rat) * y < y:=by
 have b0:0 < ((x / y).den:Int):=by have:=(x / y).den_pos; omega
 have z:=fl_dv (a:=(x / y).num) b0
 rw [Rat.num_divInt_den] at z
 exact led_in hy z.1 z.2
def Ya (x y:Rat):Rat:=x - ((Int.fdiv (x.num * (y.den:Int)) ((x.den:Int) * y.num):Int):Rat) * y
theorem spot_is {x y:Rat} {k:Int} (hy:0 < y) (h:0<=x - k * y/\x - k * y < y):x - k * y=Ya x y:=by
 have z:=fl_div (x:=x) hy
 unfold Ya
 generalize Int.fdiv (x.num * (y.den:Int)) ((x.den:Int) * y.num)=j at z ⊢
 have e:k=j:=by
  rcases Int.lt_trichotomy k j with c|c|c
  ·have c1:((k+1:Int):Rat)<=(j:Rat):=Rat.intCast_le_intCast.mpr (by omega)
   have c2:=Rat.mul_le_mul_of_nonneg_right c1 (Rat.le_of_lt hy)
   rw [Rat.intCast_add] at c2
   grind
  ·exact c
  ·have c1:((j+1:Int):Rat)<=(k:Rat):=Rat.intCast_le_intCast.mpr (by omega)
   have c2:=Rat.mul_le_mul_of_nonneg_right c1 (Rat.le_of_lt hy)
   rw [Rat.intCast_add] at c2
   grind
 rw [e]
theorem fdiv_bd {a b:Int} {n:Nat} (hb:0 < b) (h:Bd n a):Bd n (a.fdiv b):=by
 refine h.of_le ?_
 rw [Int.fdiv_eq_ediv_of_nonneg _ (by omega)]
 exact Int.natAbs_ediv_le_natAbs a b
def absQ (v:Rat):Rat:=if v < 0 then -v else v
theorem FQ.abs {K:PySem.W.Frag} {H:Hp} {p:Addr} {v:Rat} (h:SqT K H p [.int (if v.num < 0 then -v.num else v.num),.int ((v.den:Nat):Int)]):FQ K H p (absQ v):=by
 have e:v.num < 0↔v < 0:=q_numneg
 unfold absQ
 by_cases c:v < 0
 ·rw [if_pos (e.mpr c)] at h
  rw [if_pos c]
  exact h
 ·rw [if_neg (fun z=>c (e.mp z))] at h
  rw [if_neg c]
  exact h
section
variable {β:Type} {R:V->β->Prop} {xs:List V} {bs:List β}
theorem Al2.takeR:∀ {xs:List V} {bs:List β} (k:Nat),Al2 R xs bs->Al2 R (xs.take k) (bs.take k)
 |[],[],k,_=>by simp [Al2]
 |_::_,_::_,0,_=>trivial
 |_::_,_::_,k+1,z=>⟨z.1,Al2.takeR k z.2⟩
 |[],_::_,_,z=>z.elim
 |_::_,[],_,z=>z.elim
end
section
variable {prog:Program} {w:World} {K:Type} [DecidableEq K] {knd:HeapKind prog w K} {A:Around} {E:Value->Shared->Prop} {s:Shared}
theorem iter_raw {d:Addr} {od:Obj} {es:Array DictEntry} {ep:Nat} {Q:Value->Shared->Prop} (hd:(d == sysModules)=false) (ho:s.heap.get? d=some od) (hc:od.ExactDict) (hdat:od.data=.dict es ep)
  (hQ:Q (.ref s.heap.objs.size) {s with heap:=s.heap.push {cls:=.type "dict_keyiterator",data:=.fields #[.ref d,.int 0 0,.int es.size 0,.int ep 0]}}) :
  wpAny (model prog w) A (pyIter (.ref d)) Q E s:=by
 have hT:s.TypeIs (.ref d) "dict":=⟨od,ho,hc.1⟩
 refine wpAny_pyIter_slot hT F.slot_dict_iter (wpAny_call_entry F.slot_dict_iter hT F.entry_dict_iter ?_ (F.args_dict_iter_1 _))
 unfold Builtin.«dict.__iter__»
 refine wpAny_bind ?_
 unfold Builtin.Dict.dictSlotNone
 refine wpAny_bind (wpAny_notOrdered_dict hT ?_)
 show wpAny _ _ (pure (Value.ref d)) _ _ s
 refine wpAny_pure ?_
 show wpAny _ _ (Builtin.Dict.showsAll d >>= _) _ _ s
 unfold Builtin.Dict.showsAll
 rw [if_neg (by rw [hd]; exact Bool.false_ne_true)]
 refine wpAny_bind (wpAny_pure ?_)
 refine wpAny_bind (wpAny_dictEntries ho hdat ?_)
 refine wpAny_bind (wpAny_dictEpoch ho hdat ?_)
 refine wpAny_bind (wpAny_newObj_type (wpAny_pure ⟨_,rfl,"dict_keyiterator",_,⟨_,Heap.get?_push_size _ rfl,rfl⟩,F.slot_dict_keyiterator_next.lookup,?_⟩))
 simpa [rawInt] using hQ
theorem next_raw {it d:Addr} {i ep:Nat} {od:Obj} {es:Array DictEntry} {Q:Option Value->Shared->Prop} (hit:s.heap.IsKeyIter it d i es.size ep) (hod:s.heap.get? d=some od) (hdd:od.data=.dict es ep) (hlt:i < es.size)
  (hQ:∀ h',h'.IsKeyIter it d (i+1) es.size ep->Heap.SameBut it s.heap h'->Q (some es[i].key) {s with heap:=h'}) :
  wpAny (model prog w) A (pyNext (.ref it)) Q E s:=by
 obtain ⟨o,ho,hc,hd⟩:=id hit
 unfold pyNext
 refine wpAny_bind (wpAny_attempt (wpAny_callSpecial?_slot (name:=Str.ofString "__next__") hit.typeIs F.slot_dict_keyiterator_next
  (wpAny_call_entry F.slot_dict_keyiterator_next hit.typeIs F.entry_dict_keyiterator_next ?_ (F.args_dict_keyiterator_next_1 _))))
 refine wpAny_bind (wpAny_pure ?_)
 refine wpAny_bind ?_
 refine wpAny_bind ?_
 first|refine wpAny_bind (wpAny_typeNameOfWhole_keyiter hit.typeIs (wpAny_pure ?_))|refine wpAny_bind (wpAny_typeNameOf_keyiter hit.typeIs (wpAny_pure ?_))
 refine wpAny_bind (wpAny_fieldsOf ho hd ?_)
 have hown:Builtin.Dict_items.ownsTuple "dict_keyiterator"=false:=by decide
 simp only [hown,Bool.false_eq_true,if_false]
 show wpAny _ _ (if (Value.ref d == Value.none)=true then _ else _) _ _ s
 rw [if_neg (show ¬ ((Value.ref d == Value.none)=true) from Bool.false_ne_true)]
 refine wpAny_bind (wpAny_pure ?_)
 refine wpAny_bind (wpAny_dictEntries hod hdd ?_)
 rw [if_neg (by simp)]
 refine wpAny_bind (wpAny_pure ?_)
 refine wpAny_bind (wpAny_dictEpoch hod hdd ?_)
 rw [if_neg (by simp)]
 refine wpAny_pure ?_
 simp only [show ¬ ((i:Int) < 0) from by omega,if_false,Int.toNat_natCast,Array.getElem?_eq_getElem hlt]
 refine wpAny_bind ?_
 first|refine wpAny_bind (wpAny_typeNameOfWhole_keyiter hit.typeIs (wpAny_pure ?_))|refine wpAny_bind (wpAny_typeNameOf_keyiter hit.typeIs (wpAny_pure ?_))
 refine wpAny_bind (wpAny_isOneOf_keyiter hit.typeIs ?_)
 show wpAny _ _ (setField (.ref it) 1 (rawInt ((i:Int)+1)) >>= _) _ _ s
 refine wpAny_bind (wpAny_setField ho hd (by simp) ?_)
 have hit':(s.heap.update it (Obj.mapFields (·.setIfInBounds 1 (rawInt ((i:Int)+1))))).IsKeyIter it d (i+1) es.size ep:=
  ⟨_,Heap.get?_update_self _ ho (Obj.isFreed_of_fields (Obj.data_mapFields hd _)),(Obj.cls_mapFields ..).trans hc,by rw [Obj.data_mapFields hd]; simp [rawInt]⟩
 refine wpAny_bind (wpAny_holding ?_)
 refine wpAny_bind (wpAny_isOneOf_keyiter (s:={s with heap:=s.heap.update it (Obj.mapFields (·.setIfInBounds 1 (rawInt ((i:Int)+1))))}) hit'.typeIs ?_)
 show wpAny _ _ (pure es[i].key) _ _ _
 exact wpAny_pure (wpAny_pure ⟨_,rfl,wpAny_pure (hQ _ hit' (Heap.SameBut.update ..))⟩)
theorem end_raw {it d:Addr} {i ep:Nat} {od:Obj} {es:Array DictEntry} {Q:Option Value->Shared->Prop} (hh:A.handled=none) (hit:s.heap.IsKeyIter it d i es.size ep) (hod:s.heap.get? d=some od) (hdd:od.data=.dict es ep) (hge:es.size<=i)
  (hQ:∀ h',Heap.ExtBut it s.heap h'->Q none {s with heap:=h'}):wpAny (model prog w) A (pyNext (.ref it)) Q E s:=by
 obtain ⟨o,ho,hc,hd⟩:=id hit
 unfold pyNext
 refine wpAny_bind (wpAny_attempt (wpAny_callSpecial?_slot (name:=Str.ofString "__next__") hit.typeIs F.slot_dict_keyiterator_next
  (wpAny_call_entry F.slot_dict_keyiterator_next hit.typeIs F.entry_dict_keyiterator_next ?_ (F.args_dict_keyiterator_next_1 _))))
 refine wpAny_bind (wpAny_pure ?_)
 refine wpAny_bind ?_
 refine wpAny_bind ?_
 first|refine wpAny_bind (wpAny_typeNameOfWhole_keyiter hit.typeIs (wpAny_pure ?_))|refine wpAny_bind (wpAny_typeNameOf_keyiter hit.typeIs (wpAny_pure ?_))
 refine wpAny_bind (wpAny_fieldsOf ho hd ?_)
 have hown:Builtin.Dict_items.ownsTuple "dict_keyiterator"=false:=by decide
 simp only [hown,Bool.false_eq_true,if_false]
 show wpAny _ _ (if (Value.ref d == Value.none)=true then _ else _) _ _ s
 rw [if_neg (show ¬ ((Value.ref d == Value.none)=true) from Bool.false_ne_true)]
 refine wpAny_bind (wpAny_pure ?_)
 refine wpAny_bind (wpAny_dictEntries hod hdd ?_)
 rw [if_neg (by simp)]
 refine wpAny_bind (wpAny_pure ?_)
 refine wpAny_bind (wpAny_dictEpoch hod hdd ?_)
 rw [if_neg (by simp)]
 refine wpAny_pure ?_
 simp only [show ¬ ((i:Int) < 0) from by omega,if_false,Int.toNat_natCast,Array.getElem?_eq_none hge]
 refine wpAny_bind ?_
 first|refine wpAny_bind (wpAny_typeNameOfWhole_keyiter hit.typeIs (wpAny_pure ?_))|refine wpAny_bind (wpAny_typeNameOf_keyiter hit.typeIs (wpAny_pure ?_))
 show wpAny _ _ (setField (.ref it) 0 .none >>= _) _ _ s
 refine wpAny_bind (wpAny_setField ho hd (by simp) ?_)
 show wpAny _ _ (newExc (.type "StopIteration") [] >>= _) _ _ _
 refine wpAny_bind ?_
 simp only [newExc,newTuple]
 refine wpAny_bind (wpAny_newObj_type ?_ (by size_fits))
 refine wpAny_bind (m:=firstArgMember _ _) (wpAny_of_eq (a:=Value.none) (by first|rfl|(simp only [firstArgMember]; rfl)) ?_)
 refine wpAny_newObj_type ?_ (by size_fits)
 simp only [raiseNew]
 refine wpAny_bind (wpAny_handled ?_)
 rw [show A.in1.handled=none from hh]
 refine wpAny_bind (wpAny_pure (wpAny_throw ?_))
 refine wpAny_bind (wpAny_isInstance (T:="StopIteration") (b:=true) ⟨_,Heap.get?_push_size _ rfl,rfl⟩ isSubtype_stop ?_)
 exact wpAny_pure (hQ _ (((Heap.SameBut.update ..).extBut.push _).push _))
end
theorem YC {n:Nat} (h:n+100 < cLine):n+1 < cLine:=by omega
def Itd (a:Addr) (o:Obj) (kvs:List (List Key × V)):It:=
 ⟨fun i H=>H a=some (.frz o (.dT kvs))/\i < kvs.length,fun i H x H'=>H'=H/\∃ (b:Addr) (kv:List Key × V),kvs[i]?=some kv/\x=.ref b/\H b=some (.tup (kv.1.map kV)),fun i H=>H a=some (.frz o (.dT kvs))/\kvs.length<=i⟩
theorem kt_get {H:Hp}:∀ {kvs:List (List Key × V)} {xs:List (List Key × Addr × Value)},KT H kvs xs->∀ {i:Nat} {kv:List Key × V},kvs[i]?=some kv->∃ x,xs[i]?=some x/\H x.2.1=some (.tup (kv.1.map kV)):=by
 intro kvs xs r
 induction r with
 |nil=>intro i kv h; simp at h
 |@cons p q ps qs h t ih=>
  intro i kv hk
  cases i with
  |zero=>
   simp only [List.getElem?_cons_zero,Option.some.injEq] at hk
   subst hk
   exact ⟨q,rfl,h.2.1⟩
  |succ j=>
   simp only [List.getElem?_cons_succ] at hk
   exact ih hk
theorem turn_dict {P:Program} {w:World} {K:PySem.W.Frag} {tg:Expr} (a it:Addr) (o:Obj) (es:Array DictEntry) (ep:Nat) (kvs:List (List Key × V)) (hd:o.data=.dict es ep) (hl:es.size=kvs.length):Turn P w K tg (Itd a o kvs) [it] it (fun i h=>h.IsKeyIter it a i es.size ep) where
 mem:=by simp
 obj:=fun i h st b hb=>by
  have e:b=it:=by simpa using hb
  subst e
  obtain ⟨o,e,c,d⟩:=st
  exact ⟨o,e,fun v z=>by rw [d] at z; cases z⟩
 keep:=fun i h h' st k=>st.at fun o e=>k it (by simp) o e
 item:=by
  intro X hP hw hK hc i pins s σ H E I hf st hg
  subst hP hw hK
  obtain ⟨hq,hi⟩:=hg
  obtain ⟨ho,_,_,xs,rel,o',es',ep',ho',_,hd',he',_⟩:=(show s.heap.get? a=some o/\zp X.prog X.w H s.heap a (.dT kvs) from I.hok a _ hq)
  rw [ho] at ho'
  cases ho'
  rw [hd] at hd'
  cases hd'
  obtain ⟨f0,f1,f2,f3,f4,f5⟩:=hf it (by simp)
  have hlt:i < es.size:=by omega
  refine next_raw st ho hd hlt fun h' st' sb=>?_
  have I1:Inv X pins σ H {s with heap:=h'}:=I.turned (t':=s.toks) (fun b o hb e=>(sb.2 b hb).trans e) f0 f1 f3 f4 f5
  obtain ⟨ob,e,c,d⟩:=id st'
  obtain ⟨x,hx,hb⟩:=kt_get rel (List.getElem?_eq_getElem hi)
  have ek:es[i].key=.ref x.2.1:=by
   have z:=entry_at (knd:=tupleKind (yE X.prog X.w)) he' i
   rw [hx,Array.getElem?_eq_getElem hlt] at z
   have z':=Option.some.inj z
   rw [z']
   rfl
  rw [ek]
  exact ⟨_,rfl,go_of (s:={s with heap:=h'}) e c d (by decide) ⟨.ref x.2.1,H,I1,rfl,⟨rfl,_,_,List.getElem?_eq_getElem hi,rfl,hb⟩,st',fun b hb=>(hf b hb).1⟩⟩
 done:=by
  intro X hP hw hK hc i pins s σ H E I hf st hg
  subst hP hw hK
  obtain ⟨hq,hi⟩:=hg
  obtain ⟨ho,_⟩:=(show s.heap.get? a=some o/\zp X.prog X.w H s.heap a (.dT kvs) from I.hok a _ hq)
  obtain ⟨f0,f1,f2,f3,f4,f5⟩:=hf it (by simp)
  exact end_raw (I.ok.hd hc) st ho hd (by omega) fun h' eb=>⟨rfl,I.turned (t':=s.toks) (fun b o hb e=>eb b o hb e) f0 f1 f3 f4 f5⟩
 self:=fun _ _ _ _ _ st h=>wpAny_pyIter_keyiter st h
def iDict (tl:TE):TI:=fun σ H R=>tl σ H fun x H1=>∃ (a:Addr) (kvs:List (List Key × V)),x=.ref a/\H1 a=some (.dT kvs)/\∀ o,R (Itd a o kvs) (upd H1 a (.frz o (.dT kvs)))
theorem JY {X:Cx} {tg:Expr} {l:Expr} {tl:TE} (hl:PE X l tl):PI X tg l (iDict tl):=by
 intro pins s σ H R I h
 refine thn (hl pins s σ H _ I h) fun v s1 zz=>?_
 obtain ⟨x,H1,I1,r1,q1⟩:=zz
 obtain ⟨a,kvs,rfl,hq,q⟩:=q1
 cases r1
 obtain ⟨hz,hm,xs,rel,o,es,ep,ho,hc,hd,he,hn⟩:=(show zp X.prog X.w H1 s1.heap a (.dT kvs) from I1.hok a _ hq)
 have len:es.size=kvs.length:=by rw [size_of_entries he,Paired.length rel]
 have kp:∀ c ys,H1 c=some (HO.tup ys)->upd H1 a (.frz o (.dT kvs)) c=some (.tup ys):=fun c ys ec=>by
  rw [zX (zw ec hq (fun z=>nomatch z))]
  exact ec
 have I2:Inv X pins σ (upd H1 a (.frz o (.dT kvs))) {s1 with heap:=s1.heap,toks:=s1.toks}:=JV I1 (by rw [hq]; exact True.intro) ⟨rfl,fun _ _=>rfl⟩ ⟨o,ho⟩ ⟨ho,hz,hm,xs,KT.keeps rel kp,o,es,ep,ho,hc,hd,he,hn⟩
 refine iter_raw hm ho hc hd ?_
 refine ⟨s1.heap.objs.size,[s1.heap.objs.size],_,_,_,rfl,I2.kept (t':=s1.toks) fun b o e=>Heap.get?_push_of_some _ e,turn_dict a _ o es ep kvs hd len,⟨_,Heap.get?_push_size _ rfl,rfl,rfl⟩,fun b hb=>?_,q o⟩
 have e:b=s1.heap.objs.size:=by simpa using hb
 subst e
 exact I2.fpOk (Nat.le_refl _) (I2.hok.fresh (Nat.le_refl _))
theorem for_dict {a:Addr} {o:Obj} {kvs:List (List Key × V)} {g:TG} {tb:TS} {D:Ends} {σ:L2.St} {H:Hp} (Pv:Nat->L2.St->Hp->Prop) (h0:Pv 0 σ H) (hl:∀ i σ H,i<=kvs.length->Pv i σ H->H a=some (.frz o (.dT kvs)))
  (hs:∀ i kv b σ H,kvs[i]?=some kv->H b=some (.tup (kv.1.map kV))->Pv i σ H->g (.ref b) σ H fun σ2 H2=>tb {D with nx:=Pv (i+1),ct:=Pv (i+1),bk:=D.nx} σ2 H2) (hd:∀ σ H,Pv kvs.length σ H->D.nx σ H) :
  ∃ W:Nat->Nat->L2.St->Hp->Prop,(∃ m,W 0 m σ H)/\∀ i m σ H,W i m σ H->
   ((Itd a o kvs).stop i H/\D.nx σ H)\/((Itd a o kvs).go i H/\∃ N:L2.St->Hp->Prop,(∀ σ' H',N σ' H'->∃ m',m' < m/\W (i+1) m' σ' H')/\∀ x H',(Itd a o kvs).yld i H x H'->g x σ H' fun σ2 H2=>tb {D with nx:=N,ct:=N,bk:=D.nx} σ2 H2):=by
 refine ⟨fun i m σ H=>m=kvs.length - i/\i<=kvs.length/\Pv i σ H,⟨kvs.length,by simp,Nat.zero_le _,h0⟩,?_⟩
 rintro i m σ H ⟨rfl,hi,p⟩
 have q:=hl i σ H hi p
 by_cases hlt:i < kvs.length
 ·refine .inr ⟨⟨q,hlt⟩,Pv (i+1),fun σ' H' p'=>⟨kvs.length - (i+1),by omega,rfl,hlt,p'⟩,fun x H' y=>?_⟩
  obtain ⟨e,b,kv,hk,ex,hb⟩:=y
  subst e ex
  exact hs i kv b σ _ hk hb p
 ·have e:i=kvs.length:=by omega
  subst e
  exact .inl ⟨⟨q,Nat.le_refl _⟩,hd σ H p⟩
def frd (q:Rat):PyData:=.tuple [.int q.num,.int ((q.den:Nat):Int)]
theorem eqv_2 (a b c d:Int):PyData.eqv (.tuple [.int a,.int b]) (.tuple [.int c,.int d])=(decide (a=c) && decide (b=d)):=by
 show ((a == c) && ((b == d) && true))=_
 rw [Bool.and_true]
 congr 1
def zP (s:Stmt) (j:Nat):Stmt:=match s with
 |.ClassDef _ _ _ b _ _ _ _ _ _ _=>b.getD j (.Pass ⟨0,0,0,0⟩)
 |_=>.Pass ⟨0,0,0,0⟩
def DfM (K:PySem.W.Frag) (C:Addr) (m qual:Str) (st:Stmt) (ps:List Str):Prop:=
 ∃ (f:Addr) (oc:Value) (od:Option Addr) (kV doc pm:Value) (an:Option Addr) (cdv ct:Value) (osl:Array (Option Value)),
  K.lookup f=some ⟨oc,od,.func (fnOf m qual (zK st) (zJ st) (zD st) .none kV doc pm an cdv ct),osl⟩/\codeIn K cdv qual=true/\Meth K C m f/\
  Za K (fnOf m qual (zK st) (zJ st) (zD st) .none kV doc pm an cdv ct) ps []
def FnM (P:Program) (w:World) (K:PySem.W.Frag) (mg:Str->Option Value) (base:Heap) (k:Nat) (C:Addr) (m:Str) (ps:List Str) (sp:Sp):Prop:=
 ∃ f fd,FnOk P w K mg base (CXE P w) k f fd ps sp/\Meth K C m f/\Za K fd ps []
section
variable {P:Program} {w:World} {K:PySem.W.Frag} {mg:Str->Option Value} {base:Heap} {C:Addr} {m qual:Str} {st:Stmt} {N ps:List Str} {k:Nat} {sp:Sp}
theorem DfM.ok0 (D:DfM K C m qual st ps) (S:FnScope N ps (zD st)) (len:∀ vs H Q E,sp vs H Q E->vs.length=ps.length)
  (hbody:∀ (f:Addr) (cdv:Value) (A:Around) (outer:List Env) (s:Shared) (H:Hp) (vs:List V) (Q:VK) (E:XK),Room k (A.deeper (envOfC qual (zD st) s.heap.objs.size f cdv))->sp vs H Q E->
   ∃ t,PSs (cxOf (CXE P w) P w K mg base N qual (zD st) f cdv A outer s H E).nox (zJ st) t/\t {nx:=fun _ H'=>Q .non H',rt:=Q} (Yc N vs) H):FnM P w K mg base (k+1) C m ps sp:=by
 obtain ⟨f,oc,od,kV,doc,pm,an,cdv,ct,osl,lk,hcd,M,bd⟩:=D
 refine ⟨f,_,fn_of lk hcd S len fun A outer s H vs Q E hr hsp=>?_,M,bd⟩
 obtain ⟨t,h,q⟩:=hbody f cdv A outer s H vs Q E hr hsp
 exact ⟨t,h.nox,q⟩
theorem yN {f:Addr} {od an:Option Addr} {sl:Array (Option Value)} {oc kV dc pm cd ct:Value} (i:findIn K (.ref C) m=some (some (.ref f)))
  (t:isFn K (.ref f)=true) (l:K.lookup f=some ⟨oc,od,.func (fnOf m qual (zK st) (zJ st) (zD st) .none kV dc pm an cd ct),sl⟩) (q:codeIn K cd qual=true) (kp:keepIn K (.ref f)=true)
  (b:∀ us:List Value,us.length=ps.length->bindArgs (fnOf m qual (zK st) (zJ st) (zD st) .none kV dc pm an cd ct) ⟨us,[]⟩=pure (ps.zip us)):DfM K C m qual st ps:=
 ⟨f,oc,od,kV,dc,pm,an,cd,ct,sl,l,q,⟨i,t,kp⟩,.all b⟩
end
section
variable {X:Cx} {k k':Nat} {C:Addr} {m x f:Str} {ps:List Str} {sp:Sp} {E:XK} {p pos apos pos' tpos:Pos} {o e value:Expr} {es:List Expr} {t:TA} {ta tv:TE}
theorem yb {pl:Sem Bool} (c:Cls X.K C) (F:FnM X.prog X.w X.K X.mg X.base k C m ps sp) (hk:k<=k') (hr:Room k' X.A) (hx:jW (CXE X.prog X.w) X E) (he:PE X o ta) (ha:PA X (e::es) t)
  (hst:starEach (e::es) X.env=(false,eval e X.env)::starEach es X.env:=by rfl) (hpl:(backTo pos (starEach es X.env)).any (·.1)=false:=by rfl)
  (ht:eval (.Call (.Attribute o m apos) (e::es) [] pos) X.env=(do
   let ov <- eval o X.env
   standAt apos.atName
   let (f,first) <- holding [ov] (getMethod ov m pl)
   callWith pos f first (backTo pos (starEach (e::es) X.env)) (backToKw pos (keywordEach [] X.env))):=by rfl) :
  PE X (.Call (.Attribute o m apos) (e::es) [] pos) (tMeth C m sp [] E ta t):=by
 obtain ⟨f,fd,G,hm,bd⟩:=F
 exact pe_meth he c hm G (hr.mono hk) bd .nil hx ha hst hpl ht
theorem Zn {pl:Sem Bool} (c:Cls X.K C) (F:FnM X.prog X.w X.K X.mg X.base k C m ps sp) (hk:k<=k') (hr:Room k' X.A) (hx:jW (CXE X.prog X.w) X E) (he:PE X o ta)
  (ht:eval (.Call (.Attribute o m apos) [] [] pos) X.env=(do
   let ov <- eval o X.env
   standAt apos.atName
   let (f,first) <- holding [ov] (getMethod ov m pl)
   callWith pos f first (backTo pos (starEach [] X.env)) (backToKw pos (keywordEach [] X.env))):=by rfl) :
  PE X (.Call (.Attribute o m apos) [] [] pos) (tMeth C m sp [] E ta tNil):=by
 obtain ⟨f,fd,G,hm,bd⟩:=F
 exact pe_meth0 he c hm G (hr.mono hk) bd .nil hx ht
theorem pe_mko (mk:makesIn X.K C=true) (kp:keepIn X.K (.ref C)=true) (F:FnM X.prog X.w X.K X.mg X.base k C "__init__" ps sp) (hk:k+1<=k') (hr:Room k' X.A) (hg:Gl X x) (hm:X.mg x=some (.ref C)) (hx:jW (CXE X.prog X.w) X E)
  (ha:PA X (e::es) t) (hdb:(x == ("__debug__" : Str))=false:=by decide) (he:starEach (e::es) X.env=(false,eval e X.env)::starEach es X.env:=by rfl) (hpl:(backTo pos (starEach es X.env)).any (·.1)=false:=by rfl) :
  PE X (.Call (.Name x p) (e::es) [] pos) (tMake C sp [] E t):=by
 obtain ⟨f,fd,G,hf,bd⟩:=F
 exact pe_make ⟨mk,hf.at_,hf.fn,kp⟩ G (hr.mono hk) hg hm bd .nil hx ha hdb he hpl
def tFldC (C:Addr) (ta:TE) (f:Str):TE:=fun σ H Q=>ta σ H fun x H1=>∃ a dx fs v,x=.ref a/\H1 a=some (.ins C dx fs)/\fs.lookup f=some v/\Q v H1
theorem zT (c:Cls X.K C) (n:yu X.K C f) (he:PE X e ta) (hb:attributeBase e f X.env (eval e X.env)=eval e X.env:=by rfl):PE X (.Attribute e f pos) (tFldC C ta f):=by
 intro pins s σ H Q I h
 refine attr_of hb (thn (he pins s σ H _ I h) fun u s1 zz=>?_)
 obtain ⟨x,H1,I1,rx,a,dx,fs,v,ex,ea,l,q⟩:=zz
 subst ex
 obtain rfl:u=Value.ref a:=rx
 exact Jq I1 ea c n l fun u' s2 I2 ru=>⟨v,H1,I2,ru,q⟩
def sFldC (C:Addr) (ta tv:TE) (f:Str):TS:=fun D σ H=>tv σ H fun y H1=>ta σ H1 fun x H2=>∃ a dx fs,x=.ref a/\H2 a=some (.ins C dx fs)/\fs.length < 1000/\
 D.nx σ (upd H2 a (.ins C dx (putF f y fs)))
theorem jR (c:Cls X.K C) (n:yu X.K C f) (ha:PE X o ta) (hv:PE X value tv) (hs:swapsWith value (some (.Attribute o f pos')) pos.line X.env=pure false:=by rfl):PS X (.Assign [.Attribute o f pos'] value pos) (sFldC C ta tv f):=by
 intro pins s σ H D I h
 refine plainObj_wpAny_Assign_Attribute (thn (hv pins s σ H _ I h) fun u s1 ⟨y,H1,I1,ry,q⟩=>thn (ha pins s1 σ H1 _ I1 q) fun ov s2 ⟨x,H2,I2,rx,a,dx,fs,ex,ea,l,q2⟩=>?_) hs
 subst ex
 obtain rfl:ov=Value.ref a:=rx
 exact J3 I2 ea c n l ry fun s3 I3=>⟨σ,_,I3,q2⟩
def sFldAdd (C:Addr) (ta tv:TE) (f:Str):TS:=fun D σ H=>ta σ H fun x H1=>∃ a dx fs i,x=.ref a/\H1 a=some (.ins C dx fs)/\fs.lookup f=some (.int i)/\
 tv σ H1 fun y H2=>∃ j,y=.int j/\H2=H1/\fs.length < 1000/\D.nx σ (upd H1 a (.ins C dx (putF f (.int (i+j)) fs)))
theorem ps_fldadd (c:Cls X.K C) (n:yu X.K C f) (hop:InOp X .Add rAdd) (ha:PE X o ta) (hv:PE X value tv):PS X (.AugAssign (.Attribute o f tpos) .Add value pos) (sFldAdd C ta tv f):=by
 intro pins s σ H D I h
 refine wpAny_AugAssign_AttributeAny (thn (ha pins s σ H _ I h) fun ov s1 zz=>?_)
 obtain ⟨x,H1,I1,rx,a,dx,fs,i,ex,ea,l,q⟩:=zz
 subst ex
 obtain rfl:ov=Value.ref a:=rx
 refine Jq I1 ea c n l fun u s2 I2 ru=>thn (hv pins s2 σ H1 _ I2 q) fun w3 s3 zz=>?_
 obtain ⟨y,H2,I3,ry,j,ey,eH,l',q4⟩:=zz
 subst ey eH
 refine thn (hop pins s3 σ H2 (.int i) (.int j) u w3 (fun z H3=>z=.int (i+j)/\H3=H2) I3 ru ry ⟨i,j,rfl,rfl,rfl,rfl⟩) fun w4 s4 zz=>?_
 obtain ⟨z,H3,I4,rz,ez,eH3⟩:=zz
 subst ez eH3
 exact J3 I4 ea c n l' rz fun s5 I5=>⟨σ,_,I5,q4⟩
end
def Buts (as:List Addr) (H H':Hp):Prop:=∀ a o,a∉as->H a=some o->H' a=some o
section
variable {K:PySem.W.Frag} {H H1 H2:Hp} {as:List Addr}
theorem Buts.refl:Buts as H H:=fun _ _ _ h=>h
theorem Buts.trans (x:Buts as H H1) (y:Buts as H1 H2):Buts as H H2:=fun a o n h=>y a o n (x a o n h)
theorem Buts.of (x:Same H H1):Buts as H H1:=fun a o _ h=>x a o h
theorem Buts.one {b:Addr} (x:But b H H1) (h:b∈as):Buts as H H1:=fun a o n q=>x a o (fun e=>n (e▸h)) q
theorem Buts.mono {bs:List Addr} (x:Buts as H H1) (h:∀ a∈as,a∈bs):Buts bs H H1:=fun a o n q=>x a o (fun e=>n (h a e)) q
def NoT (as:List Addr) (H:Hp):Prop:=∀ a∈as,(∀ ys,H a≠some (.tup ys))/\∀ o ys,H a≠some (.frz o (.tup ys))
theorem Buts.tup {p:Addr} {xs:List V} (x:Buts as H H1) (n:NoT as H) (h:SqT K H p xs):SqT K H1 p xs:=by
 rcases h with (h|⟨ob,h⟩)|h
 ·exact .inl (.inl (x _ _ (fun m=>(n _ m).1 _ h) h))
 ·exact .inl (.inr ⟨ob,x _ _ (fun m=>(n _ m).2 _ _ h) h⟩)
 ·exact .inr h
theorem NoT.nil:NoT [] H:=fun _ h=>nomatch h
theorem NoT.lst {a:Addr} {xs:List V} (h:H a=some (.lst xs)) (r:NoT as H):NoT (a::as) H:=fun b hb=>by
 rcases List.mem_cons.mp hb with rfl|hb
 ·rw [h]
  exact ⟨fun _ z=>(nomatch z),fun _ _ z=>(nomatch z)⟩
 ·exact r b hb
theorem NoT.ins {a C dx:Addr} {fs:List (Str × V)} (h:H a=some (.ins C dx fs)) (r:NoT as H):NoT (a::as) H:=fun b hb=>by
 rcases List.mem_cons.mp hb with rfl|hb
 ·rw [h]
  exact ⟨fun _ z=>(nomatch z),fun _ _ z=>(nomatch z)⟩
 ·exact r b hb
theorem NoT.dct {a:Addr} {kvs:List (List Key × V)} (h:H a=some (.dT kvs)) (r:NoT as H):NoT (a::as) H:=fun b hb=>by
 rcases List.mem_cons.mp hb with rfl|hb
 ·rw [h]
  exact ⟨fun _ z=>(nomatch z),fun _ _ z=>(nomatch z)⟩
 ·exact r b hb
end
section
variable {X:Cx} {pins:List (Addr × Obj)} {σ:L2.St} {H:Hp} {s:Shared}
theorem thaw {a:Addr} {o:Obj} {u:HO} (I:Inv X pins σ H s) (ha:H a=some (.frz o u)) (h0:∀ o u,X.H₀ a≠some (.frz o u)):Inv X pins σ (upd H a u) s:=by
 have nn:∀ {b:Addr},H b=none->upd H a u b=none:=fun {b} h=>by
  rw [zX (Ne.symm (zI ha h))]
  exact h
 have ns:∀ {b:Addr} {ob:HO},H b=some ob->ob≠.frz o u->upd H a u b=some ob:=fun {b ob} h n=>by
  rw [zX (zw h ha n)]
  exact h
 refine ⟨I.ok,I.os,I.bare,⟨I.base.keep,I.base.slot,fun b ob e n hx=>nn (I.base.free b ob e n hx),I.base.there,fun b xs e=>ns (I.base.tups b xs e) (fun z=>nomatch z),fun b ob v e=>?_,fun b ps e=>?_⟩,I.loc,I.cell,nn I.free,fun x c e=>nn (I.freeC x c e),fun p hp=>?_,fun b ob e=>?_,I.len⟩
 ·have z:=I.base.frzs b ob v e
  have ne:b≠a:=fun y=>h0 ob v (y▸e)
  rw [zX ne]
  exact z
 ·obtain ⟨more,z⟩:=I.base.tbls b ps e
  exact ⟨more,ns z (fun z=>nomatch z)⟩
 ·obtain ⟨p1,p2,p3⟩:=I.pin p hp
  exact ⟨p1,nn p2,p3⟩
 ·have ho:∀ c y,H c=some (.own y)->upd H a u c=some (.own y):=fun c y z=>ns z (fun z=>nomatch z)
  have ht:∀ c xs,H c=some (.tup xs)->upd H a u c=some (.tup xs):=fun c xs z=>ns z (fun z=>nomatch z)
  by_cases ne:b=a
  ·subst ne
   rw [zq] at e
   cases e
   obtain ⟨_,z⟩:=(show s.heap.get? b=some o/\zp X.prog X.w H s.heap b u from I.hok b _ ha)
   exact z.stay (fun _ _ _ q=>q) (fun c z=>ho c b z) ht
  ·rw [zX ne] at e
   exact (I.hok b ob e).stay (fun _ _ _ q=>q) (fun c z=>ho c b z) ht
def Thw (H H':Hp) (q:Hp->Prop):Prop:=∃ (a:Addr) (o:Obj) (kvs:List (List Key × V)),H a=some (.dT kvs)/\H' a=some (.frz o (.dT kvs))/\q (upd H' a (.dT kvs))
theorem Thw.inv {H':Hp} {s':Shared} {σ':L2.St} {q:Hp->Prop} (I:Inv X pins σ H s) (h:Thw H H' q) (I':Inv X pins σ' H' s'):∃ H2,Inv X pins σ' H2 s'/\q H2:=by
 obtain ⟨a,o,kvs,h1,h2,h3⟩:=h
 refine ⟨_,thaw I' h2 fun o' u' z=>?_,h3⟩
 have y:=I.base.frzs a o' u' z
 rw [h1] at y
 cases y
def tThaw (t:TE):TE:=fun σ H Q=>t σ H fun v H'=>Thw H H' (Q v)
theorem pe_thaw {e:Expr} {t:TE} (h:PE X e t):PE X e (tThaw t):=by
 intro pins s σ H Q I q
 refine thn (h pins s σ H _ I q) fun u s' zz=>?_
 obtain ⟨v,H',I',r,th⟩:=zz
 obtain ⟨H2,I2,q2⟩:=th.inv I I'
 exact ⟨v,H2,I2,r,q2⟩
def sThaw (t:TS):TS:=fun D σ H=>t {nx:=fun σ' H'=>Thw H H' (D.nx σ'),rt:=fun v H'=>Thw H H' (D.rt v),bk:=fun σ' H'=>Thw H H' (D.bk σ'),ct:=fun σ' H'=>Thw H H' (D.ct σ')} σ H
theorem ps_thaw {st:Stmt} {t:TS} (h:PS X st t):PS X st (sThaw t):=by
 intro pins s σ H D I q
 refine thn (h pins s σ H _ I q) fun f s' hf=>?_
 cases f with
 |next=>obtain ⟨σ',H',I',th⟩:=hf; obtain ⟨H2,I2,q2⟩:=th.inv I I'; exact ⟨σ',H2,I2,q2⟩
 |brk=>obtain ⟨σ',H',I',th⟩:=hf; obtain ⟨H2,I2,q2⟩:=th.inv I I'; exact ⟨σ',H2,I2,q2⟩
 |cont=>obtain ⟨σ',H',I',th⟩:=hf; obtain ⟨H2,I2,q2⟩:=th.inv I I'; exact ⟨σ',H2,I2,q2⟩
 |ret u=>obtain ⟨v,σ',H',I',r,th⟩:=hf; obtain ⟨H2,I2,q2⟩:=th.inv I I'; exact ⟨v,σ',H2,I2,r,q2⟩
end
section
variable {X:Cx}
def rCatA (K:PySem.W.Frag):R2:=fun x y H Q=>∃ a b xs ys,x=.ref a/\y=.ref b/\SqT K H a xs/\SqT K H b ys/\xs.length+ys.length<=sizeLine/\
 (xs=[]->Q (.ref b) H)/\(xs≠[]->ys=[]->Q (.ref a) H)/\(xs≠[]->ys≠[]->∀ p,H p=none->Q (.ref p) (upd H p (.tup (xs++ys))))
theorem op_catA:OpR X (binaryOp .Add) (rCatA X.K):=by
 intro pins s σ H x y v u Q I rx ry h
 obtain ⟨a,b,xs,ys,rfl,rfl,ha,hb,hz,q0,q1,q2⟩:=h
 by_cases hx:xs=[]
 ·subst hx
  cases rx
  cases ry
  obtain ⟨its,r1,p1,_⟩:=I.tuple ha
  obtain ⟨its2,r2,p2,_⟩:=I.tuple hb
  cases r1
  obtain ⟨⟨cls,dd,data,sl⟩,ho,hc,n,hd⟩:=id p1
  obtain ⟨⟨cls2,dd2,data2,sl2⟩,ho2,hc2,n2,hd2⟩:=id p2
  simp only at hc hd hc2 hd2
  subst hc hd hc2 hd2
  exact concat_meets ⟨_,ho,rfl⟩ ⟨_,ho2,rfl⟩ noFill_tuple_add seq_tuple_add PySem.F.slot_tuple_add PySem.F.entry_tuple_add (PySem.F.args_tuple_add_2 _ _)
   (tuple_addW0 a b #[] its2.toArray n n2 dd dd2 sl sl2 (by simp)) ⟨ho,ho2,⟨.ref b,H,I,rfl,q0 rfl⟩⟩
 ·exact op_catT pins s σ H _ _ v u Q I rx ry ⟨a,b,xs,ys,rfl,rfl,ha,hb,hx,hz,q1 hx,q2 hx⟩
theorem op_catAK {K:PySem.W.Frag} (h:X.K=K):OpR X (binaryOp .Add) (rCatA K):=h▸op_catA
theorem sl_tupK {K:PySem.W.Frag} (h:X.K=K):SlR X (rSlT K):=h▸sl_tup
end
section
variable {K:PySem.W.Frag} {idx:List Nat} {te:TE} {σ:L2.St} {H:Hp} {Q:VK}
theorem lc_tup {a:Addr} {xs:List V} (Pv:Nat->List V->Hp->Prop) (h0:Pv 0 [] H) (hz:xs.length<=sizeLine) (hy:∀ i ys H,Pv i ys H->ys.length=i) (hl:∀ i ys H,Pv i ys H->SqT K H a xs)
  (hs:∀ i x ys H (Q':VK),xs[i]?=some x->Pv i ys H->(∀ v H2,Pv (i+1) (ys++[v]) H2->Q' v H2)->te (stIn (some x) idx σ) H Q') (hd:∀ ys H,Pv xs.length ys H->∀ p,H p=none->Q (.ref p) (upd H p (.lst ys))) :
  Zl (Itt K a) idx te σ Q H:=by
 refine ⟨fun i m ys H=>m=xs.length - i/\i<=xs.length/\Pv i ys H,⟨xs.length,by simp,Nat.zero_le _,h0⟩,?_⟩
 rintro i m ys H ⟨rfl,hi,p⟩
 have q:=hl i ys H p
 refine ⟨by rw [hy i ys H p]; omega,?_⟩
 by_cases hlt:i < xs.length
 ·refine .inr ⟨⟨xs,xs[i],q,by simp [hlt]⟩,fun y H' yl=>?_⟩
  obtain ⟨e,yl⟩:=yl
  subst e
  exact hs i y ys _ _ (yl xs q) p fun v H2 z=>⟨xs.length - (i+1),by omega,rfl,hlt,z⟩
 ·have e:i=xs.length:=by omega
  subst e
  exact .inl ⟨⟨xs,q,Nat.le_refl _⟩,hd ys H p⟩
end
section
variable {K:PySem.W.Frag} {H H':Hp} {p b c:Addr} {x y:Rat} {v:V} {ys:List V}
theorem cut_gt {n:Nat} {i:Int} (h:0 < i) (l:0 < n):¬ (HT.sIx n 0 (some i)=0/\HT.sIx n n none=n):=fun ⟨z,_⟩=>by
 rw [show i=((i.toNat:Nat):Int) by omega,HT.sIx_nat] at z
 omega
end
section
variable {X:Cx}
end
section
variable {K:PySem.W.Frag} {H H':Hp} {b c:Addr} {z:V} {k l:Bx} {ys:List V}
end
end Kw
namespace Kw
end Kw
namespace Kw
open PySem PySem.Spec PyProof.Rows L2
section
variable {X:Cx} {es1 es2 es3 es4 es5 es6:List Expr} {x1 x2 x3 x4 x5 x6:Nat} {q1 q2 q3 q4 q5 q6 q7 pos:Pos} {t1 t2 t3 t4 t5 t6 t7:TE}
end
theorem com_fb {n:Int} {D B:Nat} (d1:1<=D) (dB:D < 2 ^ B) (nB:n.natAbs < 2 ^ B):FB B ((n:Rat) / (D:Rat)):=by
 have e:(n:Rat) / (D:Rat)=Rat.divInt n (D:Int):=by
  rw [q_dv]
  rfl
 rw [e]
 exact FB.fit (by omega) nB (show ((D:Int)).natAbs < 2 ^ B by rw [Int.natAbs_natCast]; exact dB)
theorem JB {D:Nat} (h:1<=D):(D:Rat)≠0:=by
 intro e
 have z:((D:Nat):Rat)=((0:Nat):Rat):=e
 have z2:=Rat.natCast_inj.mp z
 omega
theorem inv_two {a b:Rat} (ha:a≠0) (hb:b≠0):(a * b)⁻¹=a⁻¹ * b⁻¹:=by
 have i1:=Rat.mul_inv_cancel a ha
 have i2:=Rat.mul_inv_cancel b hb
 have n:a * b≠0:=fun z=>by
  rcases Rat.mul_eq_zero.mp z with z|z
  ·exact ha z
  ·exact hb z
 have i3:=Rat.mul_inv_cancel (a * b) n
 grind
open AutoSeq1 (wpAny_loadPart')
section
variable {prog:Program} {w:World} {A:Around} {E:Value->Shared->Prop} {s:Shared}
end
section
variable {prog:Program} {w:World} {A:Around} {E:Value->Shared->Prop} {s:Shared}
end
section
variable {X:Cx}
end
theorem Jf {n j:Nat} (h:j < n):ixN n (j:Int)=some j:=by
 unfold ixN
 simp
 omega
section
variable {K:PySem.W.Frag} {H H':Hp} {v u:V} {o o':Option Rat} {as:List Addr}
end
section
variable {g sh nw x:Addr} {n i:Int} {j:Addr} {co v:V}
end
section
variable {K:PySem.W.Frag} {H H':Hp} {v:V} {m:Rat × Rat × Nat} {as:List Addr}
end
end Kw
namespace Kw
theorem al_app {β:Type} {R:L2.V->β->Prop}:∀ {xs xs':List L2.V} {ys ys':List β},Al2 R xs ys->Al2 R xs' ys'->Al2 R (xs++xs') (ys++ys')
 |[],_,[],_,_,h=>h
 |_::_,_,_::_,_,h,g=>⟨h.1,al_app h.2 g⟩
 |[],_,_::_,_,h,_=>h.elim
 |_::_,_,[],_,h,_=>h.elim
end Kw
namespace Kw
open PySem PySem.Spec PyProof.Rows L2
structure Bq where
 x:Rat
 y:Rat
 w:Rat
 h:Rat
 u:Rat
 v:Rat
 m:Option Int
def Bq.pl (b:Bq) (d:Nat):Rat:=if d=0 then b.x else b.y
def Bq.sz (b:Bq) (d:Nat):Rat:=if d=0 then b.w else b.h
def Bq.sp (b:Bq) (d:Nat):Rat:=if d=0 then b.u else b.v
def Bq.far (b:Bq) (d:Nat):Rat:=b.pl d+b.sz d
def Bq.with (b:Bq) (d:Nat) (p s:Rat):Bq:=if d=0 then {b with x:=p,u:=s} else {b with y:=p,v:=s}
def hicB (a b:Bq) (d:Nat):Bool:=decide (a.pl d < b.far d) && decide (b.pl d < a.far d)
def tchB (a b:Bq) (d:Nat):Bool:=decide (a.far d=b.pl d)
def besB (a b:Bq) (d:Nat):Bool:=tchB a b d && hicB a b (1 - d)
def crnB (a b:Bq):Bool:=(tchB a b 0 || tchB b a 0) && (tchB a b 1 || tchB b a 1)
def atB (t:Rat) (b:Bq):Bq:={b with x:=b.x+b.u * t,y:=b.y+b.v * t}
abbrev Pr:=Nat × Int × Int
def jT (R:Rat × Rat) (d:Nat) (i:Int):Bq:=
 if d=0 then (if i=-1 then ⟨-1,0,1,R.2,0,0,none⟩ else ⟨R.1,0,1,R.2,0,0,none⟩) else (if i=-1 then ⟨0,-1,R.1,1,0,0,none⟩ else ⟨0,R.2,R.1,1,0,0,none⟩)
def bxAt (gs:List Bq) (i:Nat):Bq:=gs.getD i ⟨0,0,1,1,0,0,none⟩
def boxB (R:Rat × Rat) (gs:List Bq) (d:Nat) (i:Int):Bq:=if 0<=i then bxAt gs i.toNat else jT R d i
def jntP (R:Rat × Rat) (gs:List Bq) (p:Pr):Option Rat:=
 if (boxB R gs p.1 p.2.1).sp p.1<=(boxB R gs p.1 p.2.2).sp p.1 then none else some (((boxB R gs p.1 p.2.2).pl p.1 - (boxB R gs p.1 p.2.1).far p.1) / ((boxB R gs p.1 p.2.1).sp p.1 - (boxB R gs p.1 p.2.2).sp p.1))
def prs1 (n d:Nat) (one:Int):List Pr:=(((-2:Int)::(List.range n).map fun (i:Nat)=>(i:Int)).filter fun o=>decide (one≠o) && (decide (0<=one) || decide (0<=o))).map fun o=>(d,one,o)
def prsD (n d:Nat):List Pr:=((-1:Int)::(List.range n).map fun (i:Nat)=>(i:Int)).flatMap (prs1 n d)
def prsP (n:Nat):List Pr:=prsD n 0++prsD n 1
def metP (R:Rat × Rat) (gs:List Bq) (t:Rat) (p:Pr):Bool:=hicB (atB t (boxB R gs p.1 p.2.1)) (atB t (boxB R gs p.1 p.2.2)) (1 - p.1)
def corP (R:Rat × Rat) (gs:List Bq) (p:Pr):Bool:=decide (0<=p.2.1) && (decide (0<=p.2.2) && (decide (jntP R gs p=jntP R gs (1 - p.1,p.2.1,p.2.2)) || decide (jntP R gs p=jntP R gs (1 - p.1,p.2.2,p.2.1))))
def Zd (now:Rat) (c o:Option Rat):Bool:=match o with
 |none=>false
 |some t=>if t < now then false else (match c with|none=>true|some s=>decide (t < s))
def ya (R:Rat × Rat) (gs:List Bq) (now:Rat) (c:Option Rat) (p:Pr):Option Rat:=
 if (Zd now c (jntP R gs p) && (metP R gs ((jntP R gs p).getD 0) p || corP R gs p))=true then jntP R gs p else c
def comP (R:Rat × Rat) (gs:List Bq) (now:Rat):Option Rat:=(prsP gs.length).foldl (ya R gs now) none
def cmgP (R:Rat × Rat) (gs:List Bq) (c:Option Rat) (p:Pr):Bool:=decide (c≠none) && decide (jntP R gs p=c)
def dueP (R:Rat × Rat) (gs:List Bq) (now:Rat):List Pr:=(prsP gs.length).filter fun p=>cmgP R gs (comP R gs now) p && metP R gs ((comP R gs now).getD 0) p
def numP (ps:List Pr):List Int:=(ps.map (·.2.1)++ps.map (·.2.2)).filter fun i=>decide (0<=i)
def twoP (ps:List Pr):Bool:=decide (¬ (numP ps).Nodup)
def hemP (R:Rat × Rat) (bs:List Bq) (ps:List Pr):Bool:=(prsP bs.length).any fun n=>besB (boxB R bs n.1 n.2.1) (boxB R bs n.1 n.2.2) n.1 && ps.any fun p=>decide (p.1=n.1) && (decide (p.2.1=n.2.2) || decide (p.2.2=n.2.1))
def cnrP (bs:List Bq) (ps:List Pr):Bool:=(List.range bs.length).any fun o=>(List.range o).any fun i=>(decide ((i:Int)∈numP ps) || decide ((o:Int)∈numP ps)) && crnB (bxAt bs i) (bxAt bs o)
def cloP (R:Rat × Rat) (gs:List Bq) (c:Option Rat):Bool:=(prsP gs.length).any fun p=>cmgP R gs c p && corP R gs p
def crwP (R:Rat × Rat) (gs:List Bq) (now:Rat):Bool:=
 twoP (dueP R gs now) || (hemP R (gs.map (atB ((comP R gs now).getD 0))) (dueP R gs now) || (cnrP (gs.map (atB ((comP R gs now).getD 0))) (dueP R gs now) || cloP R gs (comP R gs now)))
def ptd (a b:Rat × Rat × Option Int):Rat × Rat:=match b.2.2 with
 |none=>(b.1+b.1 - a.1,-a.2.1)
 |some u=>(mixQ a.1 b.1 (a.2.2.getD 1) u,mixQ a.2.1 b.2.1 (a.2.2.getD 1) u)
def farG (b:Bq) (d:Nat):Rat × Rat × Option Int:=(b.far d,b.sp d,b.m)
def yA (b:Bq) (d:Nat):Rat × Rat × Option Int:=(b.pl d,b.sp d,b.m)
def JN (b:Bq) (d:Nat) (g:Rat × Rat):Bq:=b.with d (g.1 - b.sz d) g.2
def JF (b:Bq) (d:Nat) (g:Rat × Rat):Bq:=b.with d g.1 g.2
def prtA (R:Rat × Rat) (gs:List Bq) (p:Pr):List Bq:=
 if 0<=p.2.1 then gs.set p.2.1.toNat (JN (boxB R gs p.1 p.2.1) p.1 (ptd (farG (boxB R gs p.1 p.2.1) p.1) (yA (boxB R gs p.1 p.2.2) p.1))) else gs
def prtP (R:Rat × Rat) (gs:List Bq) (p:Pr):List Bq:=
 if 0<=p.2.2 then (prtA R gs p).set p.2.2.toNat (JF (boxB R gs p.1 p.2.2) p.1 (ptd (yA (boxB R gs p.1 p.2.2) p.1) (farG (boxB R gs p.1 p.2.1) p.1))) else prtA R gs p
def onP (R:Rat × Rat) (gs:List Bq) (now:Rat):List Bq:=(dueP R gs now).foldl (prtP R) gs
def mtsP (R:Rat × Rat) (gs:List Bq) (now:Rat):List (Rat × Pr):=(dueP R gs now).map fun p=>((comP R gs now).getD 0,p)
inductive RunP (R:Rat × Rat):List Bq->Rat->Nat->String->List (Rat × Pr)->List Bq->Rat->Prop
 |still {gs:List Bq} {now:Rat} {n:Nat} (h:comP R gs now=none):RunP R gs now n "still" [] gs now
 |more {gs:List Bq} {now t:Rat} (h:comP R gs now=some t):RunP R gs now 0 "more" [] gs now
 |crowd {gs:List Bq} {now t:Rat} {n:Nat} (h:comP R gs now=some t) (c:crwP R gs now=true):RunP R gs now (n+1) "crowd" [] gs now
 |step {gs:List Bq} {now t:Rat} {n:Nat} {wd:String} {ms:List (Rat × Pr)} {es:List Bq} {last:Rat} (h:comP R gs now=some t) (c:crwP R gs now=false) (r:RunP R (onP R gs now) t n wd ms es last):RunP R gs now (n+1) wd (mtsP R gs now++ms) es last
def wV:Option Int->V
 |none=>.non
 |some m=>.int m
def WtO (o:Option Int):Prop:=∀ m,o=some m->1<=m/\m<=1000
def BqH (K:PySem.W.Frag) (N:Nat) (H:Hp) (z:V) (b:Bq):Prop:=∃ p a0 a1 a2 a3 a4 a5,z=.ref p/\SqT K H p [.ref a0,.ref a1,.ref a2,.ref a3,.ref a4,.ref a5,wV b.m]/\
 (FQ K H a0 b.x/\FQ K H a1 b.y/\FQ K H a2 b.w/\FQ K H a3 b.h/\FQ K H a4 b.u/\FQ K H a5 b.v)/\(FB N b.x/\FB N b.y/\FB 1990 b.w/\FB 1990 b.h/\FB 1990 b.u/\FB 1990 b.v)/\WtO b.m
def GoQ (K:PySem.W.Frag) (N:Nat) (H:Hp) (z:V) (g:Rat × Rat × Option Int):Prop:=∃ p a c,z=.ref p/\SqT K H p [.ref a,.ref c,wV g.2.2]/\FQ K H a g.1/\FQ K H c g.2.1/\FB N g.1/\FB 1990 g.2.1/\WtO g.2.2
section
variable {K:PySem.W.Frag} {H H':Hp} {N M:Nat} {z:V} {b:Bq} {g:Rat × Rat × Option Int} {as:List Addr}
theorem BqH.same (h:BqH K N H z b) (s:Same H H'):BqH K N H' z b:=by
 obtain ⟨p,a0,a1,a2,a3,a4,a5,e,h1,⟨g0,g1,g2,g3,g4,g5⟩,d⟩:=h
 exact ⟨p,a0,a1,a2,a3,a4,a5,e,Kw.Same.tup s h1,⟨Kw.Same.tup s g0,Kw.Same.tup s g1,Kw.Same.tup s g2,Kw.Same.tup s g3,Kw.Same.tup s g4,Kw.Same.tup s g5⟩,d⟩
theorem BqH.buts (h:BqH K N H z b) (s:Buts as H H') (n:NoT as H):BqH K N H' z b:=by
 obtain ⟨p,a0,a1,a2,a3,a4,a5,e,h1,⟨g0,g1,g2,g3,g4,g5⟩,d⟩:=h
 exact ⟨p,a0,a1,a2,a3,a4,a5,e,s.tup n h1,⟨s.tup n g0,s.tup n g1,s.tup n g2,s.tup n g3,s.tup n g4,s.tup n g5⟩,d⟩
theorem BqH.mono (h:BqH K N H z b) (l:N<=M):BqH K M H z b:=by
 obtain ⟨p,a0,a1,a2,a3,a4,a5,e,h1,g,⟨d0,d1,d⟩,w⟩:=h
 exact ⟨p,a0,a1,a2,a3,a4,a5,e,h1,g,⟨d0.mono l,d1.mono l,d⟩,w⟩
theorem zk {vs:List V} {bs:List Bq} (h:Al2 (BqH K N H) vs bs) (s:Same H H'):Al2 (BqH K N H') vs bs:=Al2.imp (fun _ _ z=>z.same s) h
theorem yw {vs:List V} {bs:List Bq} (h:Al2 (BqH K N H) vs bs) (s:Buts as H H') (n:NoT as H):Al2 (BqH K N H') vs bs:=Al2.imp (fun _ _ z=>z.buts s n) h
theorem GoQ.same (h:GoQ K N H z g) (s:Same H H'):GoQ K N H' z g:=by
 obtain ⟨p,a,c,e,h1,h2,h3,d⟩:=h
 exact ⟨p,a,c,e,Kw.Same.tup s h1,Kw.Same.tup s h2,Kw.Same.tup s h3,d⟩
theorem d01 {d:Nat} (h:d<=1):d=0\/d=1:=by omega
end
def keyP (p:Pr):List Key:=[.inl (p.1:Int),.inl p.2.1,.inl p.2.2]
def keyW (d:Nat) (i:Int):List Key:=[.inl (d:Int),.inl i]
theorem keyP_inj {a b:Pr} (h:keyP a=keyP b):a=b:=by
 obtain ⟨a1,a2,a3⟩:=a
 obtain ⟨b1,b2,b3⟩:=b
 unfold keyP at h
 simp only [List.cons.injEq,Sum.inl.injEq,and_true] at h
 obtain ⟨h1,h2,h3⟩:=h
 have:a1=b1:=by omega
 subst this h2 h3
 rfl
def OptB (K:PySem.W.Frag) (H:Hp) (v:V) (o:Option Rat):Prop:=(o=none/\v=.non)\/∃ (q:Rat) (p:Addr),o=some q/\v=.ref p/\FQ K H p q/\FB 2000 q
def Wls (K:PySem.W.Frag) (H:Hp) (wl:Addr) (R:Rat × Rat):Prop:=∃ w0 w1 w2 w3:V,H wl=some (.dT [(keyW 0 (-1),w0),(keyW 0 (-2),w1),(keyW 1 (-1),w2),(keyW 1 (-2),w3)])/\BqH K 1990 H w0 (jT R 0 (-1))/\BqH K 1990 H w1 (jT R 0 (-2))/\BqH K 1990 H w2 (jT R 1 (-1))/\BqH K 1990 H w3 (jT R 1 (-2))
section
variable {K:PySem.W.Frag} {H H':Hp} {v:V} {o:Option Rat} {as:List Addr} {wl:Addr} {R:Rat × Rat} {a:Addr} {u:HO}
theorem OptB.same (h:OptB K H v o) (s:Same H H'):OptB K H' v o:=by
 rcases h with h|⟨q,p,e,e2,g,d⟩
 ·exact .inl h
 ·exact .inr ⟨q,p,e,e2,Kw.Same.tup s g,d⟩
theorem OptB.buts (h:OptB K H v o) (s:Buts as H H') (n:NoT as H):OptB K H' v o:=by
 rcases h with h|⟨q,p,e,e2,g,d⟩
 ·exact .inl h
 ·exact .inr ⟨q,p,e,e2,s.tup n g,d⟩
theorem OptB.non (h:OptB K H v o):v=.non↔o=none:=by
 rcases h with ⟨e,e2⟩|⟨q,p,e,e2,_⟩
 ·exact ⟨fun _=>e,fun _=>e2⟩
 ·exact ⟨fun z=>by (rw [e2] at z; cases z),fun z=>by (rw [e] at z; cases z)⟩
theorem optb_same {vs:List V} {os:List (Option Rat)} (h:Al2 (OptB K H) vs os) (s:Same H H'):Al2 (OptB K H') vs os:=Al2.imp (fun _ _ z=>z.same s) h
theorem yT {vs:List V} {os:List (Option Rat)} (h:Al2 (OptB K H) vs os) (s:Buts as H H') (n:NoT as H):Al2 (OptB K H') vs os:=Al2.imp (fun _ _ z=>z.buts s n) h
theorem Wls.same (h:Wls K H wl R) (s:Same H H'):Wls K H' wl R:=by
 obtain ⟨w0,w1,w2,w3,e,h0,h1,h2,h3⟩:=h
 exact ⟨w0,w1,w2,w3,s _ _ e,h0.same s,h1.same s,h2.same s,h3.same s⟩
theorem Wls.buts (h:Wls K H wl R) (s:Buts as H H') (n:NoT as H) (nw:wl∉as):Wls K H' wl R:=by
 obtain ⟨w0,w1,w2,w3,e,h0,h1,h2,h3⟩:=h
 exact ⟨w0,w1,w2,w3,s _ _ nw e,h0.buts s n,h1.buts s n,h2.buts s n,h3.buts s n⟩
theorem Wls.get (h:Wls K H wl R) {d:Nat} {i:Int} (hd:d<=1) (hi:i=-1\/i=-2):∃ w kvs,H wl=some (.dT kvs)/\valV kvs (keyW d i)=some w/\BqH K 1990 H w (jT R d i):=by
 obtain ⟨w0,w1,w2,w3,e,h0,h1,h2,h3⟩:=h
 rcases d01 hd with rfl|rfl
 ·rcases hi with rfl|rfl
  ·exact ⟨w0,_,e,by with_unfolding_all rfl,h0⟩
  ·exact ⟨w1,_,e,by with_unfolding_all rfl,h1⟩
 ·rcases hi with rfl|rfl
  ·exact ⟨w2,_,e,by with_unfolding_all rfl,h2⟩
  ·exact ⟨w3,_,e,by with_unfolding_all rfl,h3⟩
theorem rd_same (h:Rd H a u) (s:Same H H'):Rd H' a u:=h.elim (fun z=>.inl (s _ _ z)) fun ⟨o,z⟩=>.inr ⟨o,s _ _ z⟩
end
structure NoM (fs:List (Str × V)):Prop where
 one_of:fs.lookup ("one_of" : Str)=none
 other_of:fs.lookup ("other_of" : Str)=none
 joint_of:fs.lookup ("joint_of" : Str)=none
 look_ahead:fs.lookup ("look_ahead" : Str)=none
 is_sooner:fs.lookup ("is_sooner" : Str)=none
 is_coming:fs.lookup ("is_coming" : Str)=none
 meet_at:fs.lookup ("meet_at" : Str)=none
 close_at_a_corner:fs.lookup ("close_at_a_corner" : Str)=none
 meetings:fs.lookup ("meetings" : Str)=none
 boxes_met:fs.lookup ("boxes_met" : Str)=none
 is_crowded:fs.lookup ("is_crowded" : Str)=none
 has_two_meetings:fs.lookup ("has_two_meetings" : Str)=none
 is_hemmed_in:fs.lookup ("is_hemmed_in" : Str)=none
 has_a_corner:fs.lookup ("has_a_corner" : Str)=none
 bodies_at:fs.lookup ("bodies_at" : Str)=none
 part:fs.lookup ("part" : Str)=none
 go_on:fs.lookup ("go_on" : Str)=none
structure PlG (K:PySem.W.Frag) (H:Hp) (C p:Addr) (R:Rat × Rat) (gs:List Bq) (dx:Addr) (fs:List (Str × V)) (wl g:Addr) (xs:List V):Prop where
 ob:H p=some (.ins C dx fs)
 fw:fs.lookup ("walls" : Str)=some (.ref wl)
 fg:fs.lookup ("goings" : Str)=some (.ref g)
 ws:Wls K H wl R
 hg:H g=some (.lst xs)
 al:Al2 (BqH K 1990 H) xs gs
 nm:NoM fs
structure PlJ (K:PySem.W.Frag) (H:Hp) (R:Rat × Rat) (gs:List Bq) (fs:List (Str × V)) (j:Addr) (kvs:List (List Key × V)):Prop where
 fj:fs.lookup ("joints" : Str)=some (.ref j)
 hj:Rd H j (.dT kvs)
 ks:kvs.map (·.1)=(prsP gs.length).map keyP
 js:Al2 (OptB K H) (kvs.map (·.2)) ((prsP gs.length).map (jntP R gs))
structure PlC (K:PySem.W.Frag) (H:Hp) (now:Rat) (c:Option Rat) (fs:List (Str × V)) (nw:Addr) (co:V):Prop where
 fn:fs.lookup ("now" : Str)=some (.ref nw)
 gn:FQ K H nw now
 dn:FB 2000 now
 fc:fs.lookup ("coming" : Str)=some co
 oc:OptB K H co c
section
variable {K:PySem.W.Frag} {H H':Hp} {C p:Addr} {R:Rat × Rat} {gs:List Bq} {dx:Addr} {fs:List (Str × V)} {wl g j nw:Addr} {xs:List V} {kvs:List (List Key × V)} {now:Rat} {c:Option Rat} {co:V} {as:List Addr}
theorem PlG.same (h:PlG K H C p R gs dx fs wl g xs) (s:Same H H'):PlG K H' C p R gs dx fs wl g xs:=⟨s _ _ h.ob,h.fw,h.fg,h.ws.same s,s _ _ h.hg,zk h.al s,h.nm⟩
theorem PlJ.same (h:PlJ K H R gs fs j kvs) (s:Same H H'):PlJ K H' R gs fs j kvs:=⟨h.fj,rd_same h.hj s,h.ks,optb_same h.js s⟩
theorem PlC.same (h:PlC K H now c fs nw co) (s:Same H H'):PlC K H' now c fs nw co:=⟨h.fn,Kw.Same.tup s h.gn,h.dn,h.fc,h.oc.same s⟩
theorem val_at:∀ {kvs:List (List Key × V)} {ps:List Pr} {os:List (Option Rat)} {f:Pr->Option Rat},kvs.map (·.1)=ps.map keyP->Al2 (OptB K H) (kvs.map (·.2)) (ps.map f)->∀ q∈ps,∃ v,valV kvs (keyP q)=some v/\OptB K H v (f q)
 |[],[],_,_,_,_,q,hq=>nomatch hq
 |[],_::_,_,_,h,_,_,_=>nomatch h
 |_::_,[],_,_,h,_,_,_=>nomatch h
 |kv::kvs,p::ps,os,f,h,al,q,hq=>by
  simp only [List.map_cons,List.cons.injEq] at h
  obtain ⟨e,r⟩:=h
  by_cases z:p=q
  ·subst z
   exact ⟨kv.2,Ye e,al.1⟩
  ·have hq':q∈ps:=(List.mem_cons.mp hq).resolve_left fun y=>z y.symm
   obtain ⟨v,e1,e2⟩:=val_at (os:=os) r al.2 q hq'
   exact ⟨v,by rw [Yp (fun y=>z (keyP_inj (e▸y)))]; exact e1,e2⟩
theorem PlJ.get (h:PlJ K H R gs fs j kvs) {q:Pr} (hq:q∈prsP gs.length):∃ v,valV kvs (keyP q)=some v/\OptB K H v (jntP R gs q):=val_at (os:=[]) h.ks h.js q hq
end
theorem mem_prs1 {n d:Nat} {one:Int} {q:Pr}:q∈prs1 n d one↔q.1=d/\q.2.1=one/\(q.2.2=-2\/∃ i,i < n/\q.2.2=(i:Int))/\one≠q.2.2/\(0<=one\/0<=q.2.2):=by
 obtain ⟨q1,q2,q3⟩:=q
 unfold prs1
 simp only [List.mem_map,List.mem_filter,List.mem_cons,List.mem_range,Bool.and_eq_true,Bool.or_eq_true,decide_eq_true_eq,Prod.mk.injEq]
 constructor
 ·rintro ⟨o,⟨h1,h2,h3⟩,rfl,rfl,rfl⟩
  refine ⟨rfl,rfl,?_,h2,h3⟩
  rcases h1 with h1|⟨i,hi,e⟩
  ·exact .inl h1
  ·exact .inr ⟨i,hi,e.symm⟩
 ·rintro ⟨rfl,rfl,h1,h2,h3⟩
  refine ⟨q3,⟨?_,h2,h3⟩,rfl,rfl,rfl⟩
  rcases h1 with h1|⟨i,hi,e⟩
  ·exact .inl h1
  ·exact .inr ⟨i,hi,e.symm⟩
def InP (n:Nat) (q:Pr):Prop:=q.1<=1/\(q.2.1=-1\/∃ i,i < n/\q.2.1=(i:Int))/\(q.2.2=-2\/∃ i,i < n/\q.2.2=(i:Int))/\q.2.1≠q.2.2/\(0<=q.2.1\/0<=q.2.2)
theorem mem_prsD {n d:Nat} {q:Pr}:q∈prsD n d↔q.1=d/\(q.2.1=-1\/∃ i,i < n/\q.2.1=(i:Int))/\(q.2.2=-2\/∃ i,i < n/\q.2.2=(i:Int))/\q.2.1≠q.2.2/\(0<=q.2.1\/0<=q.2.2):=by
 unfold prsD
 rw [List.mem_flatMap]
 constructor
 ·rintro ⟨one,h1,h2⟩
  obtain ⟨a,rfl,b,c,e⟩:=mem_prs1.mp h2
  refine ⟨a,?_,b,c,e⟩
  rcases List.mem_cons.mp h1 with h1|h1
  ·exact .inl h1
  ·obtain ⟨i,hi,ei⟩:=List.mem_map.mp h1
   exact .inr ⟨i,List.mem_range.mp hi,ei.symm⟩
 ·rintro ⟨a,h1,b,c,e⟩
  refine ⟨q.2.1,?_,mem_prs1.mpr ⟨a,rfl,b,c,e⟩⟩
  rcases h1 with h1|⟨i,hi,ei⟩
  ·rw [h1]
   exact List.mem_cons_self ..
  ·rw [ei]
   exact List.mem_cons_of_mem _ (List.mem_map.mpr ⟨i,List.mem_range.mpr hi,rfl⟩)
theorem yK {n:Nat} {q:Pr}:q∈prsP n↔InP n q:=by
 unfold prsP InP
 rw [List.mem_append,mem_prsD,mem_prsD]
 constructor
 ·rintro (⟨a,r⟩|⟨a,r⟩)
  ·exact ⟨by omega,r⟩
  ·exact ⟨by omega,r⟩
 ·rintro ⟨a,r⟩
  rcases d01 a with a|a
  ·exact .inl ⟨a,r⟩
  ·exact .inr ⟨a,r⟩
end Kw
namespace Kw
open PySem PySem.Spec PySem.NumText PyProof.Rows L2
end Kw
namespace Kw
open PySem PySem.Spec PySem.NumText PyProof.Rows L2
section
variable {X:Cx}
theorem any_range_bl (bs:List Bool):(List.range bs.length).any (fun i=>bs.getD i false)=bs.any id:=by
 rw [Bool.eq_iff_iff,List.any_eq_true,List.any_eq_true]
 constructor
 ·rintro ⟨i,hi,h⟩
  have hi':=List.mem_range.mp hi
  exact ⟨bs[i],List.getElem_mem hi',by simpa [List.getD,hi'] using h⟩
 ·rintro ⟨b,hb,h⟩
  obtain ⟨i,hi,rfl⟩:=List.mem_iff_getElem.mp hb
  exact ⟨i,List.mem_range.mpr hi,by simpa [List.getD,hi] using h⟩
def rAny (K:PySem.W.Frag):List V->Hp->VK->Prop:=fun xs H Q=>∃ p,∃ bs:List Bool,xs=[.ref p]/\SqL K H p (bs.map V.bl)/\Q (.bl (bs.any id)) H
theorem call_any {K:PySem.W.Frag} (hK:X.K=K) (hc:X.calm=true):jJ X (.builtin "any") (rAny K):=by
 subst hK
 intro pins s σ H xs us Q I r h
 obtain ⟨p,bs,rfl,hp,q⟩:=h
 obtain ⟨u,rfl,rx⟩:=Zi r
 cases rx
 obtain ⟨its,r',pl,hz⟩:=I.list hp
 have hlen:=r'.length
 rw [List.length_map] at hlen
 have hlt:p < s.heap.objs.size:=by
  obtain ⟨o,n,e,_⟩:=pl
  exact Heap.lt_size e
 refine call_any_walk (wpAny_pyIter_list pl.isList ?_)
 refine ⟨s.heap.objs.size,[s.heap.objs.size,p],[s.heap.objs.size],its.toArray.size,fun i v=>its.toArray[i]?=some v,fun i h=>h.IsListIter s.heap.objs.size p i/\h.IsList p its.toArray,fun i=>bs.getD i false,rfl,Walks.list (A:=X.A.in1) (I.ok.hd hc) s.heap.objs.size p (Nat.ne_of_lt hlt) its.toArray,⟨⟨_,Heap.get?_push_size _ rfl,rfl,rfl⟩,pl.isList.push _⟩,?_,fun h' tk kk=>?_⟩
 ·intro i v z Q' E' hv hq
  have hv':its[i]?=some v:=by simpa using hv
  obtain ⟨hi,e⟩:=List.getElem?_eq_some_iff.mp hv'
  have hi':i < bs.length:=by omega
  have eb:(bs.map V.bl)[i]?=some (V.bl bs[i]):=by rw [List.getElem?_map,List.getElem?_eq_getElem hi']; rfl
  obtain ⟨w',hw,rw'⟩:=r'.get eb
  rw [hv'] at hw
  cases hw
  cases (show v=Value.bool bs[i] from rw')
  have e2:bs.getD i false=bs[i]:=by simp [List.getD,hi']
  dsimp only at hq
  rw [e2] at hq
  exact wpAny_truthy_bool hq
 ·rw [List.size_toArray,<- hlen,any_range_bl]
  refine ⟨.bl (bs.any id),H,I.kept (t':=tk) fun b o e=>?_,rfl,q⟩
  exact kk b o (fun z=>by
   have e':=List.mem_singleton.mp z
   have:=Heap.lt_size e
   rw [e'] at this
   exact Nat.lt_irrefl _ this) (Heap.get?_push_of_some _ e)
end
end Kw
namespace Kw
open PySem PySem.Spec PySem.NumText PyProof.Rows L2
section
variable {X:Cx}
end
end Kw
namespace Kw
open PySem PySem.Spec PySem.NumText PyProof.Rows L2
section
variable {prog:Program} {w:World} {A:Around} {E:Value->Shared->Prop} {s:Shared} {I l:Addr} {items:Array Value}
end
section
variable {X:Cx}
end
end Kw
namespace Kw
open PySem PySem.Spec PySem.NumText PyProof.Rows L2
end Kw
namespace Kw
open PySem PySem.Spec PySem.NumText PyProof.Rows L2
end Kw
namespace Kw
open PySem PySem.Spec PySem.NumText PyProof.Rows L2
section
variable {X:Cx}
def rInD (K:PySem.W.Frag):V->V->Hp->VK->Prop:=fun x y H Q=>∃ (d:PyData) (ds:List PyData),Dp K H x d/\(Dp K H y (.list ds)\/Dp K H y (.tuple ds))/\PyData.canLayAll0 ds=true/\d.canLay0=true/\min (PyData.depthAll ds) d.depth<=60/\Q (.bl (ds.any fun z=>PyData.eqv z d)) H
theorem op_inD {K:PySem.W.Frag} (hK:X.K=K) (hu:X.A.units+100 < cLine):OpR X (compareOp .In) (rInD K):=by
 subst hK
 intro pins s σ H x y v u Q I rx ry h
 obtain ⟨d,ds,hx,hy,cs,cd,dep,q⟩:=h
 obtain ⟨as,ra⟩:=hx.reads I rx
 rcases hy with hy|hy
 ·obtain ⟨bs,rb⟩:=hy.reads I ry
  exact SeqAt.in_list_reads rb ra cs cd (by omega) ⟨.bl _,H,I,rfl,q⟩
 ·obtain ⟨bs,rb⟩:=hy.reads I ry
  exact SeqAt.in_tuple_reads rb ra cs cd (by omega) ⟨.bl _,H,I,rfl,q⟩
end
end Kw
namespace Kw
open PySem PySem.Spec PyProof.Rows L2
section
variable {β:Type} {R:V->β->Prop} {xs:List V} {bs:List β}
theorem Al2.app:∀ {xs ys:List V} {bs cs:List β},Al2 R xs bs->Al2 R ys cs->Al2 R (xs++ys) (bs++cs)
 |[],_,[],_,_,h=>h
 |_::_,_,_::_,_,z,h=>⟨z.1,Al2.app z.2 h⟩
 |[],_,_::_,_,z,_=>z.elim
 |_::_,_,[],_,z,_=>z.elim
end
end Kw
namespace Kw
open PySem PySem.Spec PySem.NumText PyProof.Rows L2
section
variable {X:Cx}
end
end Kw
namespace Kw
open PySem PySem.Spec PyProof.Rows L2
section
variable {X:Cx}
end
section
variable {X:Cx} {k k':Nat} {C:Addr} {x:Str} {ps:List Str} {sp:Sp} {E:XK} {p pos:Pos}
end
def strV (k:String):V:=.str (Str.ofString k)
theorem sqt2 {K:PySem.W.Frag} {A:Addr} {o:Option Addr} {a b:String} {k1 k2:Tok} {n:Nat} {sl:Array (Option Value)} (h:K.lookup A=some ⟨.type "tuple",o,.seq #[.str (Str.ofString a) k1,.str (Str.ofString b) k2] n,sl⟩):∀ H,SqT K H A ([a,b].map strV):=fun H=>
 .inr ⟨_,_,_,h,rfl,rfl,by show 2<=sizeLine; decide,.cons ⟨_,rfl⟩ (.cons ⟨_,rfl⟩ .nil)⟩
def tGlobS (K:PySem.W.Frag) (ks:List String):TE:=fun _ H Q=>∀ N,(∀ H1,SqT K H1 N (ks.map strV))->Q (.ref N) H
theorem pe_globS3 {X:Cx} {K:PySem.W.Frag} {ks:List String} {x:Str} {pos:Pos} (hK:X.K=K) (hg:Gl X x) (hm:∃ N,X.mg x=some (.ref N)/\∀ H,SqT K H N (ks.map strV)) (hd:(x == ("__debug__" : Str))=false:=by decide):PE X (.Name x pos) (tGlobS K ks):=by
 obtain ⟨N,hm,hN⟩:=hm
 intro pins s σ H Q I h
 exact pe_glob hg hm (v:=.ref N) rfl hd pins s σ H Q I (h N hN)
def dd (ns:List Int):List Int:=ns.foldl step_dedup []
theorem first_dd (ns:List Int):firstMet (fun i=>ns.getD i 0) ns.length=dd ns:=by
 unfold firstMet dd
 congr 1
 refine List.ext_getElem? fun i=>?_
 rw [List.getElem?_map]
 by_cases h:i < ns.length
 ·rw [List.getElem?_range h,List.getElem?_eq_getElem h]
  simp [List.getD_eq_getElem?_getD,List.getElem?_eq_getElem h]
 ·rw [List.getElem?_eq_none (by simpa using h),List.getElem?_eq_none (by omega)]
  rfl
theorem dd_fold:∀ (ns σ:List Int),σ.Nodup->(ns.foldl step_dedup σ).length<=σ.length+ns.length/\((ns.foldl step_dedup σ).length=σ.length+ns.length↔(σ++ns).Nodup)
 |[],σ,h=>by simp [h]
 |n::ns,σ,h=>by
  rw [List.foldl_cons]
  by_cases e:σ.any (· == n)=true
  ·have m:n∈σ:=by simpa [List.any_eq_true,beq_iff_eq] using e
   have es:step_dedup σ n=σ:=if_pos e
   rw [es]
   have ih:=dd_fold ns σ h
   refine ⟨by simp; omega,⟨fun z=>?_,fun z=>?_⟩⟩
   ·simp only [List.length_cons] at z
    omega
   ·have:=(List.nodup_append.mp z).2.2 n m n (List.mem_cons_self ..)
    exact absurd rfl this
  ·have m:n∉σ:=by simpa [List.any_eq_true,beq_iff_eq] using e
   have es:step_dedup σ n=σ++[n]:=if_neg e
   rw [es]
   have h':(σ++[n]).Nodup:=List.nodup_append.mpr ⟨h,by simp,fun a ha b hb e=>m (by rw [List.mem_singleton.mp hb] at e; exact e▸ha)⟩
   have ih:=dd_fold ns (σ++[n]) h'
   rw [List.length_append,List.length_singleton] at ih
   rw [show σ++n::ns=σ++[n]++ns by simp]
   refine ⟨by simp; omega,?_⟩
   rw [<- ih.2]
   simp only [List.length_cons]
   omega
theorem dd_two (ns:List Int):(dd ns).length < ns.length↔¬ ns.Nodup:=by
 have z:=dd_fold ns [] List.nodup_nil
 simp only [List.length_nil,Nat.zero_add,List.nil_append] at z
 unfold dd
 rw [<- z.2]
 omega
section
variable {X:Cx}
theorem call_setI (hc:X.calm=true):jJ X (.type "set") (fun xs H Q=>∃ p ns,xs=[.ref p]/\SqL X.K H p (ns.map V.int)/\ns.length < 4000/\∀ l,H l=none->Q (.ref l) (upd H l (.set (fun k=>(dd ns).any (· == k)) (dd ns).length))):=by
 intro pins s σ H xs us Q I r h
 obtain ⟨p,ns,rfl,hq,h64,q⟩:=h
 obtain ⟨u,rfl,rx⟩:=Zi r
 cases rx
 obtain ⟨its,r',pl,hz⟩:=I.list hq
 have hlen:=r'.length
 rw [List.length_map] at hlen
 refine PySem.call_set_list (I.ok.hd hc) pl.isList (by simpa using Kw.vals_ints r') (by show its.toArray.size+1 < 4096; simp; omega) fun h' tk hS hk=>?_
 have hsz:its.toArray.size=ns.length:=by simp; omega
 rw [hsz,first_dd] at hS
 exact ⟨.ref s.heap.objs.size,_,I.laid (t':=tk) (o:=.set (fun k=>(dd ns).any (· == k)) (dd ns).length) (fun b o ho=>hk b o (Heap.lt_size ho) ho) (Nat.le_refl _) hS,rfl,q _ (I.hok.fresh (Nat.le_refl _))⟩
theorem call_lenS:jJ X (.builtin "len") (fun xs H Q=>∃ p S n,xs=[.ref p]/\H p=some (.set S n)/\Q (.int n) H):=by
 intro pins s σ H xs us Q I r h
 obtain ⟨p,S,n,rfl,hp,q⟩:=h
 obtain ⟨u,rfl,rx⟩:=Zi r
 cases rx
 obtain ⟨o,es,ep,t,ho,hex,hd,_,_,hb,hf,rfl⟩:=(I.hok p _ hp:s.heap.SetOf (intKind X.prog X.w) p S n)
 have hb':es.size < 4096:=hb
 exact call_len_set ho hex hd hf (by omega) ⟨.int _,H,I.tok _,⟨_,rfl⟩,q⟩
end
def opD:Option Rat->PyData
 |none=>.none
 |some q=>frd q
theorem YT (o:Option Rat):(opD o).canLay0=true:=by cases o<;>rfl
theorem opD_dep (o:Option Rat):(opD o).depth<=2:=by
 cases o with
 |none=>decide
 |some q=>exact Nat.le_of_ble_eq_true rfl
theorem opD_eqv (a b:Option Rat):PyData.eqv (opD a) (opD b)=decide (a=b):=by
 cases a with
 |none=>cases b with
  |none=>rfl
  |some q=>rfl
 |some p=>cases b with
  |none=>rfl
  |some q=>
   show PyData.eqv (frd p) (frd q)=_
   unfold frd
   rw [eqv_2]
   by_cases e:p=q
   ·subst e
    rw [decide_eq_true rfl,decide_eq_true rfl,decide_eq_true rfl]
    rfl
   ·rw [decide_eq_false (fun z=>e (Option.some.inj z))]
    by_cases e1:p.num=q.num
    ·by_cases e2:p.den=q.den
     ·exact absurd (Rat.ext e1 e2) e
     ·rw [decide_eq_false (show ¬ ((p.den:Nat):Int)=((q.den:Nat):Int) by omega),Bool.and_false]
    ·rw [decide_eq_false e1,Bool.false_and]
theorem OptB.dp {K:PySem.W.Frag} {H:Hp} {v:V} {o:Option Rat} (h:OptB K H v o):Dp K H v (opD o):=by
 rcases h with ⟨rfl,rfl⟩|⟨q,p,rfl,rfl,g,_⟩
 ·exact .non
 ·exact .tup g (.cons (.int _) (.cons (.int _) .nil))
theorem op_eqOB {X:Cx} {K:PySem.W.Frag} (hK:X.K=K) (hu:X.A.units+100 < cLine):OpR X (compareOp .Eq) (fun a b H Q=>∃ o o',OptB K H a o/\OptB K H b o'/\Q (.bl (decide (o=o'))) H):=by
 intro pins s σ H a b v u Q I rx ry h
 obtain ⟨o,o',h1,h2,k⟩:=h
 refine op_eqD hK hu pins s σ H _ _ v u Q I rx ry ⟨opD o,opD o',h1.dp,h2.dp,YT _,YT _,?_,?_⟩
 ·have:=opD_dep o
  have:=opD_dep o'
  omega
 rw [opD_eqv]
 exact k
theorem op_inOB {X:Cx} {K:PySem.W.Frag} (hK:X.K=K) (hu:X.A.units+100 < cLine):OpR X (compareOp .In) (fun x y H Q=>∃ (t:Addr) (a b:V) (o o1 o2:Option Rat),y=.ref t/\SqT K H t [a,b]/\OptB K H x o/\OptB K H a o1/\OptB K H b o2/\Q (.bl (decide (o=o1) || decide (o=o2))) H):=by
 intro pins s σ H x y v u Q I rx ry h
 obtain ⟨t,a,b,o,o1,o2,rfl,ht,h0,h1,h2,k⟩:=h
 refine op_inD hK hu pins s σ H _ _ v u Q I rx ry ⟨opD o,[opD o1,opD o2],h0.dp,.inr (.tup ht (.cons h1.dp (.cons h2.dp .nil))),?_,YT _,?_,?_⟩
 ·show (PyData.canLay0 (opD o1) && (PyData.canLay0 (opD o2) && true))=true
  rw [YT,YT]
  rfl
 ·have:=opD_dep o
  omega
 ·simp only [List.any_cons,List.any_nil,Bool.or_false,opD_eqv]
  rw [show decide (o1=o)=decide (o=o1) from decide_eq_decide.mpr eq_comm,show decide (o2=o)=decide (o=o2) from decide_eq_decide.mpr eq_comm]
  exact k
theorem ZC {f k:Str} {v:V} (h:k≠f):∀ fs:List (Str × V),(putF f v fs).lookup k=fs.lookup k
 |[]=>by
  show (match k == f with|true=>some v|false=>none)=none
  rw [beq_false_of_ne h]
 | (g,x)::r=>by
  unfold putF
  by_cases e:g=f
  ·subst e
   rw [if_pos rfl,List.lookup_cons,List.lookup_cons,beq_false_of_ne h]
  ·rw [if_neg e,List.lookup_cons,List.lookup_cons,ZC h r]
theorem look_eq {f:Str} {v:V}:∀ fs:List (Str × V),(putF f v fs).lookup f=some v
 |[]=>by
  show (match f == f with|true=>some v|false=>none)=some v
  rw [beq_self_eq_true]
 | (g,x)::r=>by
  unfold putF
  by_cases e:g=f
  ·subst e
   rw [if_pos rfl,List.lookup_cons,beq_self_eq_true]
  ·rw [if_neg e,List.lookup_cons,look_eq r,beq_false_of_ne (Ne.symm e)]
theorem put_put {f:Str} {v u:V}:∀ fs:List (Str × V),putF f v (putF f u fs)=putF f v fs
 |[]=>by simp [putF]
 | (g,x)::r=>by
  by_cases e:g=f
  ·subst e
   simp [putF]
  ·simp [putF,e,put_put r]
theorem Jm {f:Str} {v:V}:∀ fs:List (Str × V),(putF f v fs).length<=fs.length+1
 |[]=>Nat.le_refl _
 | (g,x)::r=>by
  unfold putF
  split
  ·simp
  ·have:=Jm (f:=f) (v:=v) r
   simp only [List.length_cons]
   omega
theorem NoM.put {fs:List (Str × V)} (h:NoM fs) {f:Str} {v:V} (hf:f="coming"\/f="due"\/f="now"\/f="gone_through"):NoM (putF f v fs):=by
 have ne:∀ k:Str,k≠"coming"->k≠"due"->k≠"now"->k≠"gone_through"->k≠f:=fun k a b c d e=>by
  subst e
  rcases hf with z|z|z|z
  ·exact a z
  ·exact b z
  ·exact c z
  ·exact d z
 have g:∀ k:Str,k≠"coming"->k≠"due"->k≠"now"->k≠"gone_through"->fs.lookup k=none->(putF f v fs).lookup k=none:=fun k a b c d e=>by rw [ZC (ne k a b c d)]; exact e
 obtain ⟨h1,h2,h3,h4,h5,h6,h7,h8,h9,h10,h11,h12,h13,h14,h15,h16,h17⟩:=h
 constructor<;>exact g _ (by decide) (by decide) (by decide) (by decide) (by assumption)
section
variable {K:PySem.W.Frag} {H H':Hp} {C p:Addr} {R:Rat × Rat} {gs:List Bq} {dx:Addr} {fs:List (Str × V)} {wl g j nw:Addr} {xs:List V} {kvs:List (List Key × V)} {now:Rat} {c:Option Rat} {co:V} {as:List Addr} {f:Str} {v:V}
theorem PlG.put (h:PlG K H C p R gs dx fs wl g xs) (hf:f="coming"\/f="due"\/f="now"\/f="gone_through") (s:Buts as H H') (n:NoT as H) (nw:wl∉as) (ng:g∉as) (e:H' p=some (.ins C dx (putF f v fs))):PlG K H' C p R gs dx (putF f v fs) wl g xs:=by
 have n1:("walls" : Str)≠f:=fun z=>by subst z; revert hf; decide
 have n2:("goings" : Str)≠f:=fun z=>by subst z; revert hf; decide
 exact ⟨e,by rw [ZC n1]; exact h.fw,by rw [ZC n2]; exact h.fg,h.ws.buts s n nw,s _ _ ng h.hg,yw h.al s n,h.nm.put hf⟩
theorem PlG.buts (h:PlG K H C p R gs dx fs wl g xs) (s:Buts as H H') (n:NoT as H) (np:p∉as) (nw:wl∉as) (ng:g∉as):PlG K H' C p R gs dx fs wl g xs:=⟨s _ _ np h.ob,h.fw,h.fg,h.ws.buts s n nw,s _ _ ng h.hg,yw h.al s n,h.nm⟩
theorem PlJ.buts (h:PlJ K H R gs fs j kvs) (s:Buts as H H') (n:NoT as H) (hj:Rd H' j (.dT kvs)):PlJ K H' R gs fs j kvs:=⟨h.fj,hj,h.ks,yT h.js s n⟩
theorem PlJ.put (h:PlJ K H R gs fs j kvs) (hf:f="coming"\/f="due"\/f="now"\/f="gone_through") (s:Buts as H H') (n:NoT as H) (hj:Rd H' j (.dT kvs)):PlJ K H' R gs (putF f v fs) j kvs:=by
 have n1:("joints" : Str)≠f:=fun z=>by subst z; revert hf; decide
 exact ⟨by rw [ZC n1]; exact h.fj,hj,h.ks,yT h.js s n⟩
end
def PrH (H:Hp) (v:V) (q:Pr):Prop:=∃ b,v=.ref b/\H b=some (.tup ((keyP q).map kV))
theorem PrH.same {H H':Hp} {v:V} {q:Pr} (h:PrH H v q) (s:Same H H'):PrH H' v q:=by
 obtain ⟨b,e,h⟩:=h
 exact ⟨b,e,s _ _ h⟩
theorem zy {H H':Hp} {vs:List V} {qs:List Pr} (h:Al2 (PrH H) vs qs) (s:Same H H'):Al2 (PrH H') vs qs:=Al2.imp (fun _ _ z=>z.same s) h
theorem PrH.but {H H':Hp} {v:V} {q:Pr} {as:List Addr} (h:PrH H v q) (s:Buts as H H') (n:NoT as H):PrH H' v q:=by
 obtain ⟨b,e,h⟩:=h
 exact ⟨b,e,s _ _ (fun m=>(n b m).1 _ h) h⟩
theorem y3 {H H':Hp} {vs:List V} {qs:List Pr} {as:List Addr} (h:Al2 (PrH H) vs qs) (s:Buts as H H') (n:NoT as H):Al2 (PrH H') vs qs:=Al2.imp (fun _ _ z=>z.but s n) h
theorem Y4 {kvs:List (List Key × V)} {ps:List Pr} (h:kvs.map (·.1)=ps.map keyP) {i:Nat} {kv:List Key × V} (hk:kvs[i]?=some kv):∃ q,ps[i]?=some q/\kv.1=keyP q:=by
 have lk:kvs.length=ps.length:=by
  have:=congrArg List.length h
  rwa [List.length_map,List.length_map] at this
 have hi:=(List.getElem?_eq_some_iff.mp hk).1
 obtain ⟨q,hq⟩:∃ q,ps[i]?=some q:=⟨_,List.getElem?_eq_getElem (by omega)⟩
 refine ⟨q,hq,?_⟩
 have z:=congrArg (fun l=>l[i]?) h
 simp only [List.getElem?_map,hk,hq,Option.map_some] at z
 exact Option.some.inj z
theorem NoT.frz {H:Hp} {as:List Addr} {a:Addr} {o:Obj} {kvs:List (List Key × V)} (h:H a=some (.frz o (.dT kvs))) (r:NoT as H):NoT (a::as) H:=fun b hb=>by
 rcases List.mem_cons.mp hb with rfl|hb
 ·exact ⟨fun ys z=>by (rw [h] at z; cases z),fun o' ys z=>by (rw [h] at z; cases z)⟩
 ·exact r b hb
theorem Z8 {n:Nat} (h:n<=6):(prsP n).length<=200:=by
 have:n=0\/n=1\/n=2\/n=3\/n=4\/n=5\/n=6:=by omega
 rcases this with rfl|rfl|rfl|rfl|rfl|rfl|rfl<;>decide+kernel
theorem lc_dictF {idx:List Nat} {tt:TT} {te:TE} {σ:L2.St} {H:Hp} {Q:VK} {a:Addr} {o:Obj} {kvs:List (List Key × V)} {ps:List Pr} (f:Pr->Bool) (hk:kvs.map (·.1)=ps.map keyP) (hf:H a=some (.frz o (.dT kvs))) (hz:kvs.length<=sizeLine)
  (ht:∀ q b (H1:Hp),q∈ps->Same H H1->H1 b=some (.tup ((keyP q).map kV))->∀ Q':Bool->Hp->Prop,(∀ H2,Same H1 H2->Q' (f q) H2)->tt (stIn (some (.ref b)) idx σ) H1 Q')
  (he:∀ b (H1:Hp),∀ Q':VK,Q' (.ref b) H1->te (stIn (some (.ref b)) idx σ) H1 Q')
  (hd:∀ H1 ds,Same H H1->Al2 (PrH H1) ds (ps.filter f)->∀ q,H1 q=none->Q (.ref q) (upd H1 q (.lst ds))):ZE (Itd a o kvs) idx tt te σ Q H:=by
 have lk:kvs.length=ps.length:=by
  have:=congrArg List.length hk
  rwa [List.length_map,List.length_map] at this
 refine ⟨fun i m ys H'=>m=kvs.length - i/\i<=kvs.length/\Same H H'/\Al2 (PrH H') ys ((ps.take i).filter f),⟨kvs.length,by simp,Nat.zero_le _,Same.refl _,trivial⟩,?_⟩
 rintro i m ys H' ⟨rfl,hi,s1,al⟩
 have ly:=Al2.len al
 have lf:=List.length_filter_le f (ps.take i)
 rw [List.length_take] at lf
 refine ⟨by omega,?_⟩
 by_cases hlt:i < kvs.length
 ·refine .inr ⟨⟨s1 _ _ hf,hlt⟩,fun y H2 yl=>?_⟩
  obtain ⟨e,b,kv,hkv,ex,hb⟩:=yl
  subst e ex
  obtain ⟨q,hq⟩:∃ q,ps[i]?=some q:=⟨_,List.getElem?_eq_getElem (by omega)⟩
  have ek:kv.1=keyP q:=by
   have z:=congrArg (fun l=>l[i]?) hk
   simp only [List.getElem?_map,hkv,hq,Option.map_some] at z
   exact Option.some.inj z
  rw [ek] at hb
  have tk:(ps.take (i+1)).filter f=(ps.take i).filter f++(if f q=true then [q] else []):=by
   rw [zY hq,List.filter_append]
   congr 1
   show (match f q with|true=>q::[]|false=>[])=_
   cases f q<;>rfl
  refine ht q b _ (List.mem_of_getElem? hq) s1 hb _ fun H3 s3=>?_
  cases hp:f q with
  |true=>
   rw [hp] at tk
   rw [if_pos rfl]
   exact he b _ _ ⟨kvs.length - (i+1),by omega,rfl,hlt,s1.trans s3,by rw [tk,if_pos rfl]; exact Al2.snoc (zy al s3) ⟨b,rfl,s3 _ _ hb⟩⟩
  |false=>
   rw [hp] at tk
   rw [if_neg (by decide)]
   exact ⟨kvs.length - (i+1),by omega,rfl,hlt,s1.trans s3,by rw [tk,if_neg (by decide),List.append_nil]; exact zy al s3⟩
 ·have e:i=kvs.length:=by omega
  subst e
  rw [lk,List.take_length] at al
  exact .inl ⟨⟨s1 _ _ hf,Nat.le_refl _⟩,hd H' ys s1 al⟩
theorem lc_dictB {idx:List Nat} {te:TE} {σ:L2.St} {H:Hp} {Q:VK} {a:Addr} {o:Obj} {kvs:List (List Key × V)} {ps:List Pr} (f:Pr->Bool) (hk:kvs.map (·.1)=ps.map keyP) (hf:H a=some (.frz o (.dT kvs))) (hz:kvs.length<=sizeLine)
  (he:∀ q b (H1:Hp),q∈ps->Same H H1->H1 b=some (.tup ((keyP q).map kV))->∀ Q':VK,(∀ H2,Same H1 H2->Q' (.bl (f q)) H2)->te (stIn (some (.ref b)) idx σ) H1 Q')
  (hd:∀ H1,Same H H1->∀ q,H1 q=none->Q (.ref q) (upd H1 q (.lst ((ps.map f).map V.bl)))):Zl (Itd a o kvs) idx te σ Q H:=by
 have lk:kvs.length=ps.length:=by
  have:=congrArg List.length hk
  rwa [List.length_map,List.length_map] at this
 refine ⟨fun i m ys H'=>m=kvs.length - i/\i<=kvs.length/\Same H H'/\ys=((ps.take i).map f).map V.bl,⟨kvs.length,by simp,Nat.zero_le _,Same.refl _,rfl⟩,?_⟩
 rintro i m ys H' ⟨rfl,hi,s1,rfl⟩
 refine ⟨by rw [List.length_map,List.length_map,List.length_take]; omega,?_⟩
 by_cases hlt:i < kvs.length
 ·refine .inr ⟨⟨s1 _ _ hf,hlt⟩,fun y H2 yl=>?_⟩
  obtain ⟨e,b,kv,hkv,ex,hb⟩:=yl
  subst e ex
  obtain ⟨q,hq,ek⟩:=Y4 hk hkv
  rw [ek] at hb
  refine he q b _ (List.mem_of_getElem? hq) s1 hb _ fun H3 s3=>⟨kvs.length - (i+1),by omega,rfl,hlt,s1.trans s3,?_⟩
  rw [zY hq,List.map_append,List.map_append]
  rfl
 ·have e:i=kvs.length:=by omega
  subst e
  refine .inl ⟨⟨s1 _ _ hf,Nat.le_refl _⟩,?_⟩
  rw [lk,List.take_length]
  exact hd H' s1
theorem jE {α:Type} {l:List α} {i:Nat} {a:α} (f:α->Bool) (h:l[i]?=some a) (h0:(l.take i).any f=false) (h1:f a=false):(l.take (i+1)).any f=false:=by
 rw [zY h,List.any_append,h0]
 simp [h1]
theorem jh {α:Type} {l:List α} {i:Nat} {a:α} (f:α->Bool) (h:l[i]?=some a) (h1:f a=true):l.any f=true:=List.any_eq_true.mpr ⟨a,List.mem_of_getElem? h,h1⟩
theorem thawed {H H1 H2 H3:Hp} {j:Addr} {u v:HO} (hj:H j=some u) (s1:But j H H1) (s2:Same H1 H2) (s3:But j H2 H3) (e:H3 j=some u):Same H H3:=fun a o ha=>by
 by_cases z:a=j
 ·subst z
  rw [hj] at ha
  cases ha
  exact e
 ·exact s3 _ _ z (s2 _ _ (s1 _ _ z ha))
theorem Jd (l:List Int) (k:Int):inV (.int k) (l.map V.int)=decide (k∈l):=by
 induction l with
 |nil=>rfl
 |cons a l ih=>
  show (eqV (.int a) (.int k) || inV (.int k) (l.map V.int))=_
  have e:eqV (.int a) (.int k)=decide (k=a):=by
   show decide (a=k)=_
   exact decide_eq_decide.mpr eq_comm
  rw [ih,e,<- Bool.decide_or]
  exact decide_eq_decide.mpr List.mem_cons.symm
theorem Z1 (l:List Int):(l.map V.int).all Yf=true:=by
 rw [List.all_map]
 exact List.all_eq_true.mpr fun _ _=>rfl
section
variable {prog:Program} {w:World} {A:Around} {E:Value->Shared->Prop} {s:Shared} {I d S:Addr} {od:Obj} {es:Array DictEntry} {ep:Nat}
abbrev KeyAt (es:Array DictEntry):Nat->Value->Prop:=fun i v=>∃ e,es[i]?=some e/\v=e.key
theorem walks_raw (hh:A.handled=none) (I d:Addr) (hne:d≠I) (hdd:od.data=.dict es ep) :
  Walks prog w A I [I,d] [I] es.size (KeyAt es) (fun i h=>h.IsKeyIter I d i es.size ep/\h.get? d=some od) where
 sub:=fun b hb=>by simp at hb; simp [hb]
 frame:=fun _ _ _ st hk=>⟨st.1.at fun o e=>hk I (by simp) o e,hk d (by simp) _ st.2⟩
 item:=fun i s Q E hi st hQ=>by
  refine next_raw st.1 st.2 hdd hi fun h' hit' hs'=>?_
  exact hQ _ h' s.toks ⟨es[i],Array.getElem?_eq_getElem hi,rfl⟩ ⟨hit',hs'.extBut d _ hne st.2⟩ fun b o hb e=>hs'.extBut b o (fun h=>hb (by simp [h])) e
 done:=fun s Q E st hQ=>end_raw hh st.1 st.2 hdd (Nat.le_refl _) fun h' he'=>hQ h' s.toks fun b o hb e=>he' b o (fun h=>hb (by simp [h])) e
 self:=fun _ _ _ _ st hQ=>wpAny_pyIter_keyiter st.1 hQ
theorem hint_raw {Q:Bool->Shared->Prop} (tI:s.TypeIs (.ref d) "dict") (h:Q false s):wpAny (model prog w) A (Builtin.List.listLengthHint (.ref d)) Q E s:=by
 unfold Builtin.List.listLengthHint
 refine wpAny_bind (wpAny_specialOf tI F.slot_dict_len.lookup ?_)
 generalize hid:("dict.__len__" : String)=id0
 wp_delta
 rw [show splitId id0=some ("dict","__len__") from by subst hid; decide+kernel]
 subst hid
 refine wpAny_bind (wpAny_isInstance (b:=true) tI (by rw [isSubtype_type]; kernel_rfl) ?_)
 refine wpAny_ite_split (fun hab=>absurd hab (by decide)) (fun _=>?_)
 refine wpAny_ite_split (fun _=>?_) (fun hab=>absurd (by decide+kernel) hab)
 refine wpAny_bind (wpAny_typeOf tI ?_)
 exact wpAny_pure h
theorem extend_dct {R:Result->Shared->Prop} {res:Value} {c0:Nat} (hh:A.handled=none) (hd:(d == sysModules)=false) (ho:s.heap.get? d=some od) (hc:od.ExactDict) (hdd:od.data=.dict es ep) (hz:es.size<=sizeLine) (nS:S≠d)
  (kS:s.heap.get? S=some {cls:=.type "list",data:=.seq #[] c0})
  (hR:∀ z acc c,(∀ b o,b≠S->s.heap.get? b=some o->z.heap.get? b=some o)->z.gens=s.gens->z.drawn=s.drawn->z.os=s.os->z.heap.get? S=some {cls:=.type "list",dict:=none,data:=.seq acc c,slots:=#[]}->ItemsOf (KeyAt es) acc es.size->R (.ok (.ret res)) z) :
  wpAny (model prog w) A.in1 (Builtin.List.listExtendWith (.ref S) (.ref d) res) (fun fin z=>match fin with|.done f=>R (.ok f) z|.again c=>c.quiet=true/\codeAny (model prog w) A c R z) (fun e z=>R (.error e) z) s:=by
 have lS:=Heap.lt_size kS
 have ld:=Heap.lt_size ho
 have Wk:=(walks_raw (prog:=prog) (w:=w) (A:=A.in1) hh s.heap.objs.size d (Nat.ne_of_lt ld) hdd).toS
 have tI:s.TypeIs (.ref d) "dict":=⟨od,ho,hc.1⟩
 have d1:Builtin.List.listSameRef (.ref S) (.ref d)=false:=by simp [Builtin.List.listSameRef,nS]
 unfold Builtin.List.listExtendWith
 refine wpAny_bind (wpAny_typeOf tI ?_)
 rw [if_neg (by rw [d1]; decide)]
 refine wpAny_bind (iter_raw hd ho hc hdd ?_)
 refine wpAny_bind (wpAny_holding ?_)
 refine hint_raw ⟨od,Heap.get?_push_of_some _ ho,hc.1⟩ ?_
 rw [if_pos (by decide+kernel)]
 have kS1:=Heap.get?_push_of_some {cls:=.type "dict_keyiterator",data:=.fields #[.ref d,.int 0 0,.int es.size 0,.int ep 0]} kS
 refine wpAny_bind (wpAny_rule ?_)
 refine wpAny_bind ?_
 show wpAny _ _ (updateSeq S (·.push .none) >>= fun _=>updateSeq S (·.pop)) _ _ _
 refine wpAny_bind (wpAny_updateSeq kS1 rfl ?_)
 have kS2:=Heap.get?_update_self (Obj.mapSeq (·.push Value.none)) kS1 rfl
 refine wpAny_updateSeq (hz:=by seq_fits) kS2 rfl ?_
 have kS3:=Heap.get?_update_self (Obj.mapSeq (·.pop)) kS2 rfl
 have oth:∀ b u,b≠S->(s.heap.push {cls:=.type "dict_keyiterator",data:=.fields #[.ref d,.int 0 0,.int es.size 0,.int ep 0]}).get? b=some u->(((s.heap.push {cls:=.type "dict_keyiterator",data:=.fields #[.ref d,.int 0 0,.int es.size 0,.int ep 0]}).update S (Obj.mapSeq (·.push Value.none))).update S (Obj.mapSeq (·.pop))).get? b=some u:=fun b u hb e=>(Heap.get?_update_other _ _ (Ne.symm hb)).trans ((Heap.get?_update_other _ _ (Ne.symm hb)).trans e)
 refine wpAny_pure ⟨plainId_quiet F.plain_extend_loop _,codeAny_extend_loopS Wk hz S (by simp [nS,Nat.ne_of_lt lS]) res es.size 0 _ #[] _ rfl (Nat.zero_le _) ⟨⟨_,oth _ _ (Ne.symm (Nat.ne_of_lt lS)) (Heap.get?_push_size _ rfl),rfl,rfl⟩,oth _ _ (Ne.symm nS) (Heap.get?_push_of_some _ ho)⟩ kS3 (ItemsOf.nil _) fun z acc c hm hS hacc=>hR z acc c ?_ hm.gens hm.drawn hm.os hS hacc⟩
 intro b o hb e
 refine hm.heap b o (fun hx=>?_) (oth b o hb (Heap.get?_push_of_some _ e))
 rcases List.mem_cons.mp hx with y|y
 ·exact hb y
 ·exact absurd (Heap.lt_size e) (by rw [List.mem_singleton.mp y]; exact Nat.lt_irrefl _)
theorem init_dct {R:Result->Shared->Prop} (hh:A.handled=none) (hd:(d == sysModules)=false) (ho:s.heap.get? d=some od) (hc:od.ExactDict) (hdd:od.data=.dict es ep) (hz:es.size<=sizeLine) (nS:S≠d) (kS:s.heap.get? S=some {cls:=.type "list",data:=.seq #[]})
  (hR:∀ z acc c,(∀ b o,b≠S->s.heap.get? b=some o->z.heap.get? b=some o)->z.gens=s.gens->z.drawn=s.drawn->z.os=s.os->z.heap.get? S=some {cls:=.type "list",dict:=none,data:=.seq acc c,slots:=#[]}->ItemsOf (KeyAt es) acc es.size->R (.ok (.ret .none)) z) :
  wpAny (model prog w) A.in1 (Builtin.«list.__init__» ⟨[.ref S,.ref d],[]⟩) (fun fin z=>match fin with|.done f=>R (.ok f) z|.again c=>c.quiet=true/\codeAny (model prog w) A c R z) (fun e z=>R (.error e) z) s:=by
 show wpAny _ _ (do let o <- Builtin.List.listItems (.ref S); Builtin.List.listUpdate (.ref S) (fun _=>#[]); letGo o.toList.reverse; Builtin.List.listExtendWith (.ref S) (.ref d) .none) _ _ s
 refine wpAny_bind ?_
 unfold Builtin.List.listItems
 refine wpAny_bind (wpAny_seqItems kS rfl (wpAny_pure ?_))
 show wpAny _ _ (updateSeq S (fun _=>#[]) >>= fun _=>letGo (#[]:Array Value).toList.reverse >>= fun _=>Builtin.List.listExtendWith (.ref S) (.ref d) .none) _ _ s
 refine wpAny_bind (wpAny_updateSeq kS rfl ?_)
 have k2:=Heap.get?_update_self (Obj.mapSeq (fun _=>(#[]:Array Value))) kS rfl
 have oth:∀ b u,b≠S->s.heap.get? b=some u->(s.heap.update S (Obj.mapSeq (fun _=>(#[]:Array Value)))).get? b=some u:=fun b u hb e=>(Heap.get?_update_other _ _ (Ne.symm hb)).trans e
 refine wpAny_bind (wpAny_letGo ?_)
 exact extend_dct hh hd (oth _ _ (Ne.symm nS) ho) hc hdd hz nS k2 fun z acc c hm g1 g2 g3 hS hacc=>hR z acc c (fun b u hb e=>hm b u hb (oth b u hb e)) g1 g2 g3 hS hacc
theorem list_dct {Q:Value->Shared->Prop} (hh:A.handled=none) (hd:(d == sysModules)=false) (ho:s.heap.get? d=some od) (hc:od.ExactDict) (hdd:od.data=.dict es ep) (hz:es.size<=sizeLine)
  (hQ:∀ z acc c,(∀ b o,s.heap.get? b=some o->z.heap.get? b=some o)->z.gens=s.gens->z.drawn=s.drawn->z.os=s.os->z.heap.get? s.heap.objs.size=some {cls:=.type "list",dict:=none,data:=.seq acc c,slots:=#[]}->
   ItemsOf (KeyAt es) acc es.size->Q (.ref s.heap.objs.size) z):wpAny (model prog w) A (call (.type "list") [.ref d]) Q E s:=by
 have ld:=Heap.lt_size ho
 refine callType_codes (Q₁:=fun ob z=>ob=.ref s.heap.objs.size/\z={s with heap:=s.heap.push {cls:=.type "list",data:=.seq #[]}}) F.called_list (F.typeCall_list_1 _) F.entry_list_init (code_list_new _ ⟨rfl,rfl⟩) fun ob z q=>?_
 obtain ⟨rfl,rfl⟩:=q
 have kS:(s.heap.push {cls:=.type "list",data:=.seq #[]}).get? s.heap.objs.size=some {cls:=.type "list",data:=.seq #[]}:=Heap.get?_push_size _ rfl
 refine ⟨⟨_,kS,rfl⟩,F.args_list_init_2 _ _,init_dct hh hd (Heap.get?_push_of_some _ ho) hc hdd hz (Ne.symm (Nat.ne_of_lt ld)) kS fun z acc c hm g1 g2 g3 hS hacc=>⟨rfl,hQ z acc c (fun b o e=>hm b o (Nat.ne_of_lt (Heap.lt_size e)) (Heap.get?_push_of_some _ e)) g1 g2 g3 hS hacc⟩⟩
end
section
variable {X:Cx}
theorem call_list_dct (hc:X.calm=true):jJ X (.type "list") (fun xs H Q=>∃ (a:Addr) (kvs:List (List Key × V)) (ps:List Pr),xs=[.ref a]/\H a=some (.dT kvs)/\kvs.map (·.1)=ps.map keyP/\∀ (l:Addr) (ds:List V),H l=none->Al2 (PrH H) ds ps->Q (.ref l) (upd H l (.lst ds))):=by
 intro pins s σ H xs us Q I r h
 obtain ⟨a,kvs,ps,rfl,ha,hk,q⟩:=h
 obtain ⟨u,rfl,rx⟩:=Zi r
 cases rx
 obtain ⟨hz,hm,ys,rel,o,es,ep,ho,hcc,hd,he,hn⟩:=(show zp X.prog X.w H s.heap a (.dT kvs) from I.hok a _ ha)
 have len:es.size=kvs.length:=by rw [size_of_entries he,Paired.length rel]
 refine list_dct (I.ok.hd hc) hm ho hcc hd (by omega) fun z acc c keep g1 g2 g3 hS hacc=>?_
 obtain ⟨h0,h2⟩:=hacc
 have kat:∀ (i:Nat) (q:Pr),ps[i]?=some q->∃ b,acc[i]?=some (.ref b)/\H b=some (.tup ((keyP q).map kV)):=fun i q hq=>by
  have hi:i < kvs.length:=by
   have z1:=congrArg List.length hk
   rw [List.length_map,List.length_map] at z1
   have:=(List.getElem?_eq_some_iff.mp hq).1
   omega
  obtain ⟨kv,hkv⟩:∃ kv,kvs[i]?=some kv:=⟨_,List.getElem?_eq_getElem hi⟩
  obtain ⟨q',hq',ek⟩:=Y4 hk hkv
  rw [hq] at hq'
  cases hq'
  obtain ⟨y,hy,hyb⟩:=kt_get rel hkv
  rw [ek] at hyb
  have hia:i < acc.size:=by omega
  obtain ⟨e,ee,ev⟩:=h2 i acc[i] (Array.getElem?_eq_getElem hia)
  have ee':es.toList[i]?=some e:=by rw [Array.getElem?_toList]; exact ee
  rw [he,List.getElem?_map,hy] at ee'
  simp only [Option.map_some,Option.some.injEq] at ee'
  refine ⟨y.2.1,?_,hyb⟩
  rw [Array.getElem?_eq_getElem hia,ev,<- ee']
  rfl
 have al:∀ (qs:List Pr) (k:Nat),(∀ i q,qs[i]?=some q->ps[k+i]?=some q)->∃ ds:List V,Al2 (PrH H) ds qs/\Vals ds ((acc.toList.drop k).take qs.length):=fun qs=>by
  induction qs with
  |nil=>exact fun k _=>⟨[],trivial,.nil⟩
  |cons q qs ih=>
   intro k hq
   obtain ⟨b,hb1,hb2⟩:=kat k q (hq 0 q rfl)
   obtain ⟨ds,d1,d2⟩:=ih (k+1) fun i q' hi=>by
    have z1:=hq (i+1) q' (by simpa using hi)
    rwa [show k+(i+1)=k+1+i by omega] at z1
   refine ⟨.ref b::ds,⟨⟨b,rfl,hb2⟩,d1⟩,?_⟩
   have hk1:acc.toList[k]?=some (.ref b):=by rw [Array.getElem?_toList]; exact hb1
   obtain ⟨hl,hv⟩:=List.getElem?_eq_some_iff.mp hk1
   rw [List.drop_eq_getElem_cons hl,hv,List.length_cons,List.take_succ_cons]
   exact .cons rfl d2
 obtain ⟨ds,d1,d2⟩:=al ps 0 fun i q hi=>by rw [Nat.zero_add]; exact hi
 have lp:ps.length=kvs.length:=by
  have z1:=congrArg List.length hk
  rw [List.length_map,List.length_map] at z1
  exact z1.symm
 rw [List.drop_zero,List.take_of_length_le (by rw [Array.length_toList]; omega)] at d2
 have ld:ds.length<=sizeLine:=by
  have:=Al2.len d1
  omega
 have ez:z={s with heap:=z.heap,toks:=z.toks}:=by
  obtain ⟨h',g',d',tk',os'⟩:=z
  cases g1
  cases g2
  cases g3
  rfl
 rw [ez]
 exact ⟨.ref s.heap.objs.size,_,I.laid (t':=z.toks) (o:=.lst ds) keep (Nat.le_refl _) ⟨ld,acc.toList,c,d2,by rw [hS,Array.toArray_toList]⟩,rfl,q _ ds (I.hok.fresh (Nat.le_refl _)) d1⟩
end
def Rt (D B:Nat) (r:Rat):Prop:=∃ n:Int,r=(n:Rat) / (D:Rat)/\n.natAbs < 2 ^ B
section
variable {D B:Nat} {x y:Rat}
theorem Rt.mono {B':Nat} (h:Rt D B x) (l:B<=B'):Rt D B' x:=by
 obtain ⟨n,e,b⟩:=h
 have p:2 ^ B<=2 ^ B':=Nat.pow_le_pow_right (by decide) l
 exact ⟨n,e,by omega⟩
theorem Rt.fb (h:Rt D B x) (d1:1<=D) (dB:D < 2 ^ B):FB B x:=by
 obtain ⟨n,e,b⟩:=h
 rw [e]
 exact com_fb d1 dB b
theorem Rt.add (h:Rt D B x) (g:Rt D B y):Rt D (B+1) (x+y):=by
 obtain ⟨n,e,b⟩:=h
 obtain ⟨m,f,c⟩:=g
 have p:2 ^ (B+1)=2 ^ B * 2:=Nat.pow_succ ..
 refine ⟨n+m,?_,by omega⟩
 rw [e,f,Rat.intCast_add,Rat.div_def,Rat.div_def,Rat.div_def]
 grind
theorem Rt.neg (h:Rt D B x):Rt D B (-x):=by
 obtain ⟨n,e,b⟩:=h
 refine ⟨-n,?_,by omega⟩
 rw [e,Rat.intCast_neg,Rat.div_def,Rat.div_def]
 grind
theorem Rt.sub (h:Rt D B x) (g:Rt D B y):Rt D (B+1) (x - y):=by
 have z:=h.add g.neg
 rwa [show x+-y=x - y by grind] at z
theorem Rt.int {i:Int} (d1:1<=D) (dB:D < 2 ^ B) (hi:i.natAbs<=1):Rt D B (i:Rat):=by
 refine ⟨i * (D:Int),?_,?_⟩
 ·have D0:=JB d1
  have c:((((D:Nat):Int)):Rat)=(D:Rat):=rfl
  rw [Rat.intCast_mul,c,Rat.div_def]
  have i1:=Rat.mul_inv_cancel _ D0
  grind
 ·rw [Int.natAbs_mul,Int.natAbs_natCast]
  have:=Nat.mul_le_mul_right D hi
  omega
theorem Rt.up (h:Rt D B x) (d1:1<=D) {c:Nat} (c1:1<=c) (c2:c<=2000):Rt (D * c) (B+11) x:=by
 obtain ⟨n,e,b⟩:=h
 have p:2 ^ (B+11)=2 ^ B * 2048:=Nat.pow_add ..
 refine ⟨n * (c:Int),?_,?_⟩
 ·have D0:=JB d1
  have s0:=JB c1
  have e1:((D * c:Nat):Rat)=(D:Rat) * (c:Rat):=by rw [Rat.natCast_mul]
  have e2:(((c:Nat):Int):Rat)=(c:Rat):=rfl
  rw [e,e1,Rat.intCast_mul,e2,Rat.div_def,Rat.div_def,inv_two D0 s0]
  have i1:=Rat.mul_inv_cancel _ s0
  grind
 ·rw [Int.natAbs_mul,Int.natAbs_natCast,p]
  exact Nat.lt_of_lt_of_le (Nat.mul_lt_mul_of_pos_right b (by omega)) (Nat.mul_le_mul_left _ (by omega))
theorem Rt.mix (h:Rt D B x) (g:Rt D B y) (d1:1<=D) {m u:Nat} (m1:1<=m) (m2:m<=1000) (u1:1<=u) (u2:u<=1000):Rt (D * (m+u)) (B+12) (mixQ x y (m:Int) (u:Int)):=by
 obtain ⟨n,e1,b1⟩:=h
 obtain ⟨n',e2,b2⟩:=g
 have p:2 ^ (B+12)=2 ^ B * 4096:=Nat.pow_add ..
 refine ⟨((m:Int) - u) * n+2 * u * n',?_,?_⟩
 ·rw [Ys,e1,e2]
  have ab:((m+u:Nat):Rat)≠0:=JB (by omega)
  have D0:=JB d1
  have c1:((D * (m+u):Nat):Rat)=(D:Rat) * ((m:Rat)+(u:Rat)):=by push_cast; rfl
  have c2:((m+u:Nat):Rat)=(m:Rat)+(u:Rat):=by push_cast; rfl
  have c3:(((m:Int)):Rat)=(m:Rat):=rfl
  have c4:(((u:Int)):Rat)=(u:Rat):=rfl
  rw [c1,Rat.intCast_add,Rat.intCast_mul,Rat.intCast_mul,Rat.intCast_sub,Rat.intCast_mul,c3,c4]
  rw [c2] at ab
  have two:((2:Int):Rat)=2:=rfl
  rw [two]
  rw [Rat.div_def,Rat.div_def,Rat.div_def,Rat.div_def,Rat.div_def,inv_two D0 ab]
  have i1:=Rat.mul_inv_cancel _ ab
  have i2:=Rat.mul_inv_cancel _ D0
  grind
 ·have z1:(((m:Int) - u) * n).natAbs<=1000 * n.natAbs:=by
   rw [Int.natAbs_mul]
   exact Nat.mul_le_mul_right _ (by omega)
  have z2:(2 * (u:Int) * n').natAbs<=2000 * n'.natAbs:=by
   rw [Int.natAbs_mul]
   exact Nat.mul_le_mul_right _ (by omega)
  have z3:=Int.natAbs_add_le (((m:Int) - u) * n) (2 * u * n')
  omega
end
def RtB (D B:Nat) (b:Bq):Prop:=Rt D B b.x/\Rt D B b.y/\Rt D B b.w/\Rt D B b.h/\Rt D B b.u/\Rt D B b.v
def CmP (B:Nat) (R:Rat × Rat) (gs:List Bq):Prop:=∃ D:Nat,1<=D/\D < 2 ^ B/\Rt D B R.1/\Rt D B R.2/\∀ b∈gs,RtB D B b
def WtB (gs:List Bq):Prop:=∀ b∈gs,∃ m:Int,b.m=some m/\1<=m/\m<=1000
section
variable {D B:Nat} {R:Rat × Rat} {gs:List Bq} {b:Bq} {d:Nat}
theorem RtB.pl (h:RtB D B b):Rt D B (b.pl d):=by
 unfold Bq.pl
 split
 ·exact h.1
 ·exact h.2.1
theorem RtB.sz (h:RtB D B b):Rt D B (b.sz d):=by
 unfold Bq.sz
 split
 ·exact h.2.2.1
 ·exact h.2.2.2.1
theorem RtB.sp (h:RtB D B b):Rt D B (b.sp d):=by
 unfold Bq.sp
 split
 ·exact h.2.2.2.2.1
 ·exact h.2.2.2.2.2
theorem RtB.far (h:RtB D B b):Rt D (B+1) (b.far d):=h.pl.add h.sz
theorem J5 (d1:1<=D) (dB:D < 2 ^ B) (r1:Rt D B R.1) (r2:Rt D B R.2) (al:∀ b∈gs,RtB D B b) (d:Nat) (i:Int):RtB D B (boxB R gs d i):=by
 have z0:Rt D B (0:Rat):=Rt.int (i:=0) d1 dB (by decide)
 have z1:Rt D B (1:Rat):=Rt.int (i:=1) d1 dB (by decide)
 have z2:Rt D B (-1:Rat):=Rt.int (i:=-1) d1 dB (by decide)
 unfold boxB
 split
 ·unfold bxAt
  rw [List.getD_eq_getElem?_getD]
  cases q:gs[i.toNat]? with
  |none=>exact ⟨z0,z0,z1,z1,z0,z0⟩
  |some b=>exact al b (List.mem_of_getElem? q)
 ·unfold jT
  split<;>split
  ·exact ⟨z2,z0,z1,r2,z0,z0⟩
  ·exact ⟨r1,z0,z1,r2,z0,z0⟩
  ·exact ⟨z0,z2,r1,z1,z0,z0⟩
  ·exact ⟨z0,r2,r1,z1,z0,z0⟩
theorem CmP.far (h:CmP B R gs) (d:Nat) (i:Int):FB (B+1) ((boxB R gs d i).far d):=by
 obtain ⟨D,d1,dB,r1,r2,al⟩:=h
 have p:2 ^ (B+1)=2 ^ B * 2:=Nat.pow_succ ..
 exact ((J5 d1 dB r1 r2 al d i).far).fb d1 (by omega)
theorem CmP.jnt (h:CmP B R gs) {q:Pr} {t:Rat} (e:jntP R gs q=some t):FB (B+2) t:=by
 obtain ⟨D,d1,dB,r1,r2,al⟩:=h
 unfold jntP at e
 split at e
 ·cases e
 ·rename_i c
  have ha:=J5 d1 dB r1 r2 al q.1 q.2.1
  have hb:=J5 d1 dB r1 r2 al q.1 q.2.2
  generalize boxB R gs q.1 q.2.1=a at *
  generalize boxB R gs q.1 q.2.2=b at *
  have p1:2 ^ (B+1)=2 ^ B * 2:=Nat.pow_succ ..
  have p2:2 ^ (B+2)=2 ^ (B+1) * 2:=Nat.pow_succ ..
  obtain ⟨n,en,bn⟩:=(hb.pl (d:=q.1)).mono (Nat.le_succ B) |>.sub (ha.far (d:=q.1))
  obtain ⟨k,ek,bk⟩:=(ha.sp (d:=q.1)).sub (hb.sp (d:=q.1))
  injection e with e
  have k0:k≠0:=fun z=>by
   rw [z] at ek
   have:a.sp q.1 - b.sp q.1=0:=by
    rw [ek]
    show ((0:Int):Rat) / _=0
    rw [Rat.div_def]
    grind
   exact c (by grind)
  rw [en,ek] at e
  have D0:=JB d1
  have kr:(k:Rat)≠0:=q_intne k0
  have v:t=Rat.divInt n k:=by
   rw [<- e,q_dv,Rat.div_def,Rat.div_def,Rat.div_def,Rat.div_def]
   have i1:=Rat.mul_inv_cancel (D:Rat) D0
   have i2:=Rat.mul_inv_cancel (k:Rat) kr
   have f:(k:Rat) * (D:Rat)⁻¹≠0:=fun z=>kr (by grind)
   have i3:=Rat.mul_inv_cancel _ f
   grind
  rw [v]
  exact FB.fit k0 (show n.natAbs < 2 ^ (B+2) by omega) (show k.natAbs < 2 ^ (B+2) by omega)
theorem CmP.mono {B':Nat} (h:CmP B R gs) (l:B<=B'):CmP B' R gs:=by
 obtain ⟨D,d1,dB,r1,r2,al⟩:=h
 have p:2 ^ B<=2 ^ B':=Nat.pow_le_pow_right (by decide) l
 exact ⟨D,d1,by omega,r1.mono l,r2.mono l,fun b hb=>by
  obtain ⟨h1,h2,h3,h4,h5,h6⟩:=al b hb
  exact ⟨h1.mono l,h2.mono l,h3.mono l,h4.mono l,h5.mono l,h6.mono l⟩⟩
end
section
variable {b:Bq} {d d':Nat} {p s:Rat}
theorem ZF (h:d<=1) (h':d'<=1):(b.with d p s).pl d'=if d'=d then p else b.pl d':=by
 rcases d01 h with rfl|rfl<;>rcases d01 h' with rfl|rfl<;>rfl
theorem jg (h:d<=1) (h':d'<=1):(b.with d p s).sp d'=if d'=d then s else b.sp d':=by
 rcases d01 h with rfl|rfl<;>rcases d01 h' with rfl|rfl<;>rfl
theorem Ji:(b.with d p s).sz d'=b.sz d':=by
 unfold Bq.with Bq.sz
 split<;>split<;>rfl
theorem with_m:(b.with d p s).m=b.m:=by
 unfold Bq.with
 split<;>rfl
end
section
variable {R:Rat × Rat} {gs:List Bq} {q r:Pr}
theorem Zm:(prtA R gs q).length=gs.length:=by
 unfold prtA
 split
 ·rw [List.length_set]
 ·rfl
theorem yz:(prtP R gs q).length=gs.length:=by
 unfold prtP
 split
 ·rw [List.length_set,Zm]
 ·exact Zm
def oneP (R:Rat × Rat) (gs:List Bq) (q:Pr):Bq:=JN (boxB R gs q.1 q.2.1) q.1 (ptd (farG (boxB R gs q.1 q.2.1) q.1) (yA (boxB R gs q.1 q.2.2) q.1))
def othP (R:Rat × Rat) (gs:List Bq) (q:Pr):Bq:=JF (boxB R gs q.1 q.2.2) q.1 (ptd (yA (boxB R gs q.1 q.2.2) q.1) (farG (boxB R gs q.1 q.2.1) q.1))
theorem set_at (l:List Bq) (k i:Nat) (b:Bq) (hk:k < l.length):bxAt (l.set k b) i=if i=k then b else bxAt l i:=by
 unfold bxAt
 rw [List.getD_eq_getElem?_getD,List.getD_eq_getElem?_getD,List.getElem?_set]
 by_cases e:k=i
 ·subst e
  rw [if_pos rfl,if_pos hk,if_pos rfl]
  rfl
 ·rw [if_neg e,if_neg (fun z=>e z.symm)]
theorem Je (h:InP gs.length q) (d:Nat) (i:Int):boxB R (prtP R gs q) d i=if 0<=i/\i=q.2.1 then oneP R gs q else if 0<=i/\i=q.2.2 then othP R gs q else boxB R gs d i:=by
 obtain ⟨_,h1,h2,ne,_⟩:=h
 have l1:0<=q.2.1->q.2.1.toNat < gs.length:=fun z=>by
  rcases h1 with y|⟨i,hi,y⟩<;>omega
 have l2:0<=q.2.2->q.2.2.toNat < gs.length:=fun z=>by
  rcases h2 with y|⟨i,hi,y⟩<;>omega
 by_cases i0:0<=i
 ·have bx:∀ l:List Bq,boxB R l d i=bxAt l i.toNat:=fun l=>by unfold boxB; rw [if_pos i0]
  rw [bx,bx]
  have a1:∀ k:Nat,bxAt (prtA R gs q) k=if 0<=q.2.1/\k=q.2.1.toNat then oneP R gs q else bxAt gs k:=fun k=>by
   unfold prtA
   by_cases c:0<=q.2.1
   ·rw [if_pos c,set_at _ _ _ _ (l1 c)]
    by_cases e:k=q.2.1.toNat
    ·rw [if_pos e,if_pos ⟨c,e⟩]
     rfl
    ·rw [if_neg e,if_neg (fun z=>e z.2)]
   ·rw [if_neg c,if_neg (fun z=>c z.1)]
  have a2:bxAt (prtP R gs q) i.toNat=if 0<=q.2.2/\i.toNat=q.2.2.toNat then othP R gs q else bxAt (prtA R gs q) i.toNat:=by
   unfold prtP
   by_cases c:0<=q.2.2
   ·rw [if_pos c,set_at _ _ _ _ (by rw [Zm]; exact l2 c)]
    by_cases e:i.toNat=q.2.2.toNat
    ·rw [if_pos e,if_pos ⟨c,e⟩]
     rfl
    ·rw [if_neg e,if_neg (fun z=>e z.2)]
   ·rw [if_neg c,if_neg (fun z=>c z.1)]
  rw [a2,a1]
  by_cases e1:i=q.2.1
  ·rw [if_neg (show ¬ (0<=q.2.2/\i.toNat=q.2.2.toNat) by omega),if_pos (show 0<=q.2.1/\i.toNat=q.2.1.toNat by omega),if_pos ⟨i0,e1⟩]
  ·by_cases e2:i=q.2.2
   ·rw [if_pos (show 0<=q.2.2/\i.toNat=q.2.2.toNat by omega),if_neg (fun z=>e1 z.2),if_pos ⟨i0,e2⟩]
   ·rw [if_neg (show ¬ (0<=q.2.2/\i.toNat=q.2.2.toNat) by omega),if_neg (show ¬ (0<=q.2.1/\i.toNat=q.2.1.toNat) by omega),if_neg (fun z=>e1 z.2),if_neg (fun z=>e2 z.2)]
 ·rw [if_neg (fun z=>i0 z.1),if_neg (fun z=>i0 z.1)]
  unfold boxB
  rw [if_neg i0,if_neg i0]
theorem box_other (h:InP gs.length q) {d:Nat} (hd:d<=1) (ne:d≠q.1) (i:Int):(boxB R (prtP R gs q) d i).pl d=(boxB R gs d i).pl d/\(boxB R (prtP R gs q) d i).sz d=(boxB R gs d i).sz d/\(boxB R (prtP R gs q) d i).sp d=(boxB R gs d i).sp d:=by
 have bd:∀ i:Int,0<=i->boxB R gs q.1 i=boxB R gs d i:=fun i z=>by
  unfold boxB
  rw [if_pos z,if_pos z]
 rw [Je h]
 split
 ·rename_i c
  unfold oneP JN
  rw [ZF h.1 hd,Ji,jg h.1 hd,if_neg ne,if_neg ne,<- c.2,bd i c.1]
  exact ⟨rfl,rfl,rfl⟩
 ·split
  ·rename_i c
   unfold othP JF
   rw [ZF h.1 hd,Ji,jg h.1 hd,if_neg ne,if_neg ne,<- c.2,bd i c.1]
   exact ⟨rfl,rfl,rfl⟩
  ·exact ⟨rfl,rfl,rfl⟩
theorem JK {R:Rat × Rat} {gs gs':List Bq} {r:Pr} (a:(boxB R gs' r.1 r.2.1).pl r.1=(boxB R gs r.1 r.2.1).pl r.1/\(boxB R gs' r.1 r.2.1).sz r.1=(boxB R gs r.1 r.2.1).sz r.1/\(boxB R gs' r.1 r.2.1).sp r.1=(boxB R gs r.1 r.2.1).sp r.1)
  (b:(boxB R gs' r.1 r.2.2).pl r.1=(boxB R gs r.1 r.2.2).pl r.1/\(boxB R gs' r.1 r.2.2).sz r.1=(boxB R gs r.1 r.2.2).sz r.1/\(boxB R gs' r.1 r.2.2).sp r.1=(boxB R gs r.1 r.2.2).sp r.1):jntP R gs' r=jntP R gs r:=by
 unfold jntP Bq.far
 rw [a.1,a.2.1,a.2.2,b.1,b.2.2]
theorem jnt_else (h:InP gs.length q) (hr:r.1<=1) (c:r.1≠q.1\/(¬ (0<=r.2.1/\(r.2.1=q.2.1\/r.2.1=q.2.2))/\¬ (0<=r.2.2/\(r.2.2=q.2.1\/r.2.2=q.2.2)))):jntP R (prtP R gs q) r=jntP R gs r:=by
 rcases c with c|⟨c1,c2⟩
 ·exact JK (box_other h hr c _) (box_other h hr c _)
 ·have e1:boxB R (prtP R gs q) r.1 r.2.1=boxB R gs r.1 r.2.1:=by
   rw [Je h,if_neg (fun z=>c1 ⟨z.1,.inl z.2⟩),if_neg (fun z=>c1 ⟨z.1,.inr z.2⟩)]
  have e2:boxB R (prtP R gs q) r.1 r.2.2=boxB R gs r.1 r.2.2:=by
   rw [Je h,if_neg (fun z=>c2 ⟨z.1,.inl z.2⟩),if_neg (fun z=>c2 ⟨z.1,.inr z.2⟩)]
  exact JK ⟨by rw [e1],by rw [e1],by rw [e1]⟩ ⟨by rw [e2],by rw [e2],by rw [e2]⟩
theorem mem_prt {b:Bq} (h:b∈prtP R gs q):b∈gs\/b=oneP R gs q/\0<=q.2.1\/b=othP R gs q/\0<=q.2.2:=by
 have a1:b∈prtA R gs q->b∈gs\/b=oneP R gs q/\0<=q.2.1\/b=othP R gs q/\0<=q.2.2:=fun h=>by
  unfold prtA at h
  split at h
  ·rcases List.mem_or_eq_of_mem_set h with z|z
   ·exact .inl z
   ·exact .inr (.inl ⟨z,by assumption⟩)
  ·exact .inl h
 unfold prtP at h
 split at h
 ·rcases List.mem_or_eq_of_mem_set h with z|z
  ·exact a1 z
  ·exact .inr (.inr ⟨z,by assumption⟩)
 ·exact a1 h
theorem jz (hw:WtB gs) {d:Nat} {i:Int} (i0:0<=i) (hi:i.toNat < gs.length):∃ m:Int,(boxB R gs d i).m=some m/\1<=m/\m<=1000:=by
 unfold boxB bxAt
 rw [if_pos i0,List.getD_eq_getElem?_getD,List.getElem?_eq_getElem hi]
 exact hw _ (List.getElem_mem hi)
theorem YQ {d:Nat} {i:Int} (i0:¬ 0<=i):(boxB R gs d i).m=none:=by
 unfold boxB
 rw [if_neg i0]
 unfold jT
 split<;>split<;>rfl
theorem InP.l1 (h:InP gs.length q) (z:0<=q.2.1):q.2.1.toNat < gs.length:=by
 rcases h.2.1 with y|⟨i,hi,y⟩<;>omega
theorem InP.l2 (h:InP gs.length q) (z:0<=q.2.2):q.2.2.toNat < gs.length:=by
 rcases h.2.2.1 with y|⟨i,hi,y⟩<;>omega
theorem prt_wt (hw:WtB gs) (h:InP gs.length q):WtB (prtP R gs q):=fun b hb=>by
 rcases mem_prt hb with z|⟨rfl,z⟩|⟨rfl,z⟩
 ·exact hw b z
 ·unfold oneP JN
  rw [with_m]
  exact jz hw z (h.l1 z)
 ·unfold othP JF
  rw [with_m]
  exact jz hw z (h.l2 z)
end
section
variable {D B:Nat} {R:Rat × Rat} {gs:List Bq} {q:Pr}
theorem Jl {b:Bq} {d:Nat} {p s:Rat} (h:RtB D B b) (hp:Rt D B p) (hs:Rt D B s):RtB D B (b.with d p s):=by
 obtain ⟨h1,h2,h3,h4,h5,h6⟩:=h
 unfold Bq.with
 split
 ·exact ⟨hp,h2,h3,h4,hs,h6⟩
 ·exact ⟨h1,hp,h3,h4,h5,hs⟩
theorem RtB.mono {B':Nat} {b:Bq} (h:RtB D B b) (l:B<=B'):RtB D B' b:=⟨h.1.mono l,h.2.1.mono l,h.2.2.1.mono l,h.2.2.2.1.mono l,h.2.2.2.2.1.mono l,h.2.2.2.2.2.mono l⟩
theorem RtB.up {b:Bq} (h:RtB D B b) (d1:1<=D) {c:Nat} (c1:1<=c) (c2:c<=2000):RtB (D * c) (B+11) b:=⟨h.1.up d1 c1 c2,h.2.1.up d1 c1 c2,h.2.2.1.up d1 c1 c2,h.2.2.2.1.up d1 c1 c2,h.2.2.2.2.1.up d1 c1 c2,h.2.2.2.2.2.up d1 c1 c2⟩
theorem CmP.two (h:CmP B R gs) (hw:WtB gs) (hin:InP gs.length q):∃ D:Nat,1<=D/\D < 2 ^ (B+15)/\Rt D (B+15) R.1/\Rt D (B+15) R.2/\(∀ b∈gs,RtB D (B+15) b)/\(0<=q.2.1->Rt D (B+15) (ptd (farG (boxB R gs q.1 q.2.1) q.1) (yA (boxB R gs q.1 q.2.2) q.1)).1/\RtB D (B+15) (oneP R gs q))/\(0<=q.2.2->RtB D (B+15) (othP R gs q)):=by
 obtain ⟨D,d1,dB,r1,r2,al⟩:=h
 have ha:=J5 d1 dB r1 r2 al q.1 q.2.1
 have hb:=J5 d1 dB r1 r2 al q.1 q.2.2
 have p15:2 ^ (B+15)=2 ^ B * 32768:=Nat.pow_add ..
 have p11:2 ^ (B+11)=2 ^ B * 2048:=Nat.pow_add ..
 unfold oneP othP JN JF farG yA
 by_cases c1:0<=q.2.1
 ·obtain ⟨m,em,m1,m2⟩:=jz (R:=R) (d:=q.1) hw c1 (hin.l1 c1)
  by_cases c2:0<=q.2.2
  ·obtain ⟨u,eu,u1,u2⟩:=jz (R:=R) (d:=q.1) hw c2 (hin.l2 c2)
   generalize boxB R gs q.1 q.2.1=a at *
   generalize boxB R gs q.1 q.2.2=b at *
   obtain ⟨m',rfl⟩:∃ m':Nat,m=(m':Int):=⟨m.toNat,by omega⟩
   obtain ⟨u',rfl⟩:∃ u':Nat,u=(u':Int):=⟨u.toNat,by omega⟩
   have one:Rt (D * (m'+u')) (B+13) (mixQ (a.far q.1) (b.pl q.1) (m':Int) (u':Int)):=(ha.far.mix (hb.pl.mono (Nat.le_succ B)) d1 (by omega) (by omega) (by omega) (by omega))
   have oneS:Rt (D * (m'+u')) (B+12) (mixQ (a.sp q.1) (b.sp q.1) (m':Int) (u':Int)):=ha.sp.mix hb.sp d1 (by omega) (by omega) (by omega) (by omega)
   have oth:Rt (D * (u'+m')) (B+13) (mixQ (b.pl q.1) (a.far q.1) (u':Int) (m':Int)):=((hb.pl.mono (Nat.le_succ B)).mix ha.far d1 (by omega) (by omega) (by omega) (by omega))
   have othS:Rt (D * (u'+m')) (B+12) (mixQ (b.sp q.1) (a.sp q.1) (u':Int) (m':Int)):=hb.sp.mix ha.sp d1 (by omega) (by omega) (by omega) (by omega)
   rw [Nat.add_comm u' m'] at oth othS
   have upx:∀ {x:Rat},Rt D B x->Rt (D * (m'+u')) (B+15) x:=fun z=>(z.up d1 (by omega) (by omega)).mono (by omega)
   have upb:∀ {b:Bq},RtB D B b->RtB (D * (m'+u')) (B+15) b:=fun z=>(z.up d1 (by omega) (by omega)).mono (by omega)
   refine ⟨D * (m'+u'),Nat.mul_pos d1 (by omega),?_,upx r1,upx r2,fun b hb=>upb (al b hb),fun _=>?_,fun _=>?_⟩
   ·rw [p15]
    exact Nat.lt_of_lt_of_le (Nat.mul_lt_mul_of_pos_right dB (by omega)) (Nat.mul_le_mul_left _ (by omega))
   ·have e1:ptd (a.far q.1,a.sp q.1,a.m) (b.pl q.1,b.sp q.1,b.m)=(mixQ (a.far q.1) (b.pl q.1) (m':Int) (u':Int),mixQ (a.sp q.1) (b.sp q.1) (m':Int) (u':Int)):=by
     unfold ptd
     dsimp only
     rw [em,eu]
     rfl
    rw [e1]
    refine ⟨one.mono (by omega),Jl (upb ha) ?_ (oneS.mono (by omega))⟩
    exact ((one.sub ((ha.sz.up d1 (by omega) (by omega)).mono (by omega))).mono (by omega))
   ·have e1:ptd (b.pl q.1,b.sp q.1,b.m) (a.far q.1,a.sp q.1,a.m)=(mixQ (b.pl q.1) (a.far q.1) (u':Int) (m':Int),mixQ (b.sp q.1) (a.sp q.1) (u':Int) (m':Int)):=by
     unfold ptd
     dsimp only
     rw [em,eu]
     rfl
    rw [e1]
    exact Jl (upb hb) (oth.mono (by omega)) (othS.mono (by omega))
  ·have eu:=YQ (R:=R) (gs:=gs) (d:=q.1) c2
   generalize boxB R gs q.1 q.2.1=a at *
   generalize boxB R gs q.1 q.2.2=b at *
   refine ⟨D,d1,by omega,r1.mono (by omega),r2.mono (by omega),fun b hb=>(al b hb).mono (by omega),fun _=>?_,fun z=>absurd z c2⟩
   have e1:ptd (a.far q.1,a.sp q.1,a.m) (b.pl q.1,b.sp q.1,b.m)=(b.pl q.1+b.pl q.1 - a.far q.1,-a.sp q.1):=by
    unfold ptd
    dsimp only
    rw [eu]
   rw [e1]
   have z1:=(hb.pl (d:=q.1)).add (hb.pl (d:=q.1))
   have z2:=z1.sub (ha.far (d:=q.1))
   refine ⟨z2.mono (by omega),Jl (ha.mono (by omega)) ?_ (ha.sp.neg.mono (by omega))⟩
   exact (z2.sub (ha.sz.mono (by omega))).mono (by omega)
 ·have c2:0<=q.2.2:=hin.2.2.2.2.resolve_left c1
  obtain ⟨u,eu,u1,u2⟩:=jz (R:=R) (d:=q.1) hw c2 (hin.l2 c2)
  have em:=YQ (R:=R) (gs:=gs) (d:=q.1) c1
  generalize boxB R gs q.1 q.2.1=a at *
  generalize boxB R gs q.1 q.2.2=b at *
  refine ⟨D,d1,by omega,r1.mono (by omega),r2.mono (by omega),fun b hb=>(al b hb).mono (by omega),fun z=>absurd z c1,fun _=>?_⟩
  have e1:ptd (b.pl q.1,b.sp q.1,b.m) (a.far q.1,a.sp q.1,a.m)=(a.far q.1+a.far q.1 - b.pl q.1,-b.sp q.1):=by
   unfold ptd
   dsimp only
   rw [em]
  rw [e1]
  have z1:=(ha.far (d:=q.1)).add (ha.far (d:=q.1))
  have z2:=z1.sub ((hb.pl (d:=q.1)).mono (B':=B+1+1) (by omega))
  exact Jl (hb.mono (by omega)) (z2.mono (by omega)) (hb.sp.neg.mono (by omega))
theorem CmP.part (h:CmP B R gs) (hw:WtB gs) (hin:InP gs.length q):CmP (B+15) R (prtP R gs q):=by
 obtain ⟨D,d1,dB,r1,r2,al,h1,h2⟩:=h.two hw hin
 refine ⟨D,d1,dB,r1,r2,fun b hb=>?_⟩
 rcases mem_prt hb with z|⟨rfl,z⟩|⟨rfl,z⟩
 ·exact al b z
 ·exact (h1 z).2
 ·exact h2 z
end
theorem putK_at {κ:Type} [DecidableEq κ] {k:κ} {v:V}:∀ {kvs:List (κ × V)} {i:Nat} {w:V},(kvs.map (·.1)).Nodup->kvs[i]?=some (k,w)->putK kvs k v=kvs.set i (k,v):=by
 intro kvs i w nd hi
 have hm:(kvs.any fun kv=>decide (kv.1=k))=true:=List.any_eq_true.mpr ⟨(k,w),List.mem_of_getElem? hi,decide_eq_true rfl⟩
 unfold putK
 rw [if_pos hm]
 refine List.ext_getElem? fun n=>?_
 rw [List.getElem?_map,List.getElem?_set]
 by_cases e:i=n
 ·subst e
  have hl:=(List.getElem?_eq_some_iff.mp hi).1
  rw [hi,if_pos rfl,if_pos hl]
  show some (if k=k then _ else _)=_
  rw [if_pos rfl]
 ·rw [if_neg e]
  cases q:kvs[n]? with
  |none=>rfl
  |some kv=>
   show some (if kv.1=k then (kv.1,v) else kv)=some kv
   rw [if_neg]
   intro z
   obtain ⟨hl,hv⟩:=List.getElem?_eq_some_iff.mp hi
   obtain ⟨hl',hv'⟩:=List.getElem?_eq_some_iff.mp q
   have:=(List.nodup_iff_pairwise_ne.mp nd)
   have z1:(kvs.map (·.1))[i]'(by simpa using hl)=k:=by simp [hv]
   have z2:(kvs.map (·.1))[n]'(by simpa using hl')=k:=by simp [hv',z]
   rcases Nat.lt_or_gt_of_ne e with l|l
   ·exact (List.pairwise_iff_getElem.mp this i n (by simpa using hl) (by simpa using hl') l) (z1.trans z2.symm)
   ·exact (List.pairwise_iff_getElem.mp this n i (by simpa using hl') (by simpa using hl) l) (z2.trans z1.symm)
theorem prs_nodup {n:Nat} (h:n<=6):(prsP n).Nodup:=by
 have:n=0\/n=1\/n=2\/n=3\/n=4\/n=5\/n=6:=by omega
 rcases this with rfl|rfl|rfl|rfl|rfl|rfl|rfl<;>decide+kernel
theorem zAA {n:Nat} (h:n<=6):((prsP n).map keyP).Nodup:=by
 rw [List.nodup_iff_pairwise_ne,List.pairwise_map]
 exact (List.nodup_iff_pairwise_ne.mp (prs_nodup h)).imp fun z e=>z (keyP_inj e)
section
variable {B:Nat} {R:Rat × Rat} {gs:List Bq} {q:Pr}
theorem CmP.fbs (h:CmP B R gs) (hw:WtB gs) (hin:InP gs.length q) (hB:B+15<=1990) :
  (0<=q.2.1->FB 1990 (ptd (farG (boxB R gs q.1 q.2.1) q.1) (yA (boxB R gs q.1 q.2.2) q.1)).1/\FB 1990 (ptd (farG (boxB R gs q.1 q.2.1) q.1) (yA (boxB R gs q.1 q.2.2) q.1)).2/\FB 1990 ((ptd (farG (boxB R gs q.1 q.2.1) q.1) (yA (boxB R gs q.1 q.2.2) q.1)).1 - (boxB R gs q.1 q.2.1).sz q.1))/\
  (0<=q.2.2->FB 1990 (ptd (yA (boxB R gs q.1 q.2.2) q.1) (farG (boxB R gs q.1 q.2.1) q.1)).1/\FB 1990 (ptd (yA (boxB R gs q.1 q.2.2) q.1) (farG (boxB R gs q.1 q.2.1) q.1)).2):=by
 obtain ⟨D,d1,dB,_,_,_,h1,h2⟩:=h.two hw hin
 constructor
 ·intro z
  obtain ⟨a,b⟩:=h1 z
  have b1:=b.pl (d:=q.1)
  have b2:=b.sp (d:=q.1)
  unfold oneP JN at b1 b2
  rw [ZF hin.1 hin.1,if_pos rfl] at b1
  rw [jg hin.1 hin.1,if_pos rfl] at b2
  exact ⟨(a.fb d1 dB).mono hB,(b2.fb d1 dB).mono hB,(b1.fb d1 dB).mono hB⟩
 ·intro z
  have b:=h2 z
  have b1:=b.pl (d:=q.1)
  have b2:=b.sp (d:=q.1)
  unfold othP JF at b1 b2
  rw [ZF hin.1 hin.1,if_pos rfl] at b1
  rw [jg hin.1 hin.1,if_pos rfl] at b2
  exact ⟨(b1.fb d1 dB).mono hB,(b2.fb d1 dB).mono hB⟩
end
def mixL {α β:Type} (f f':α->β) (l:List α) (i:Nat):List β:=(l.take i).map f'++(l.drop i).map f
theorem mix_zero {α β:Type} (f f':α->β) (l:List α):mixL f f' l 0=l.map f:=by
 unfold mixL
 simp
theorem mix_all {α β:Type} (f f':α->β) (l:List α):mixL f f' l l.length=l.map f':=by
 unfold mixL
 simp
theorem mix_set {α β:Type} {f f':α->β} {l:List α} {i:Nat} {q:α} (h:l[i]?=some q):(mixL f f' l i).set i (f' q)=mixL f f' l (i+1):=by
 obtain ⟨hl,hv⟩:=List.getElem?_eq_some_iff.mp h
 unfold mixL
 have lt:((l.take i).map f').length=i:=by simp; omega
 rw [List.set_append_right _ _ (by omega),lt,Nat.sub_self,List.drop_eq_getElem_cons hl,List.map_cons,List.set_cons_zero,zY h,List.map_append,List.append_assoc]
 rfl
theorem mix_same {α β:Type} {f f':α->β} {l:List α} {i:Nat} {q:α} (h:l[i]?=some q) (e:f' q=f q):mixL f f' l i=mixL f f' l (i+1):=by
 obtain ⟨hl,hv⟩:=List.getElem?_eq_some_iff.mp h
 unfold mixL
 rw [List.drop_eq_getElem_cons hl,List.map_cons,zY h,List.map_append,List.append_assoc,hv]
 show _++f q::_=_++(f' q::[]++_)
 rw [e]
 rfl
section
variable {K:PySem.W.Frag} {te:TE} {tt:TT} {σ:L2.St} {H:Hp} {Q:VK} {idx:List Nat}
theorem lc_tupG {a:Addr} {xs:List V} (p:V->Bool) (hl:SqT K H a xs) (hz:xs.length<=sizeLine) (ht:∀ x∈xs,∀ Q':Bool->Hp->Prop,Q' (p x) H->tt (stIn (some x) idx σ) H Q') (he:∀ x∈xs,∀ Q':VK,Q' x H->te (stIn (some x) idx σ) H Q')
  (hd:∀ q,H q=none->Q (.ref q) (upd H q (.lst (xs.filter p)))):ZE (Itt K a) idx tt te σ Q H:=by
 refine ⟨fun i m ys H'=>m=xs.length - i/\i<=xs.length/\H'=H/\ys=(xs.take i).filter p,⟨xs.length,by simp,Nat.zero_le _,rfl,by simp⟩,?_⟩
 rintro i m ys H' ⟨rfl,hi,rfl,rfl⟩
 refine ⟨Nat.le_trans (List.length_filter_le _ _) (by rw [List.length_take]; omega),?_⟩
 by_cases hlt:i < xs.length
 ·refine .inr ⟨⟨xs,xs[i],hl,by simp [hlt]⟩,fun y H' yl=>?_⟩
  obtain ⟨e,yl⟩:=yl
  subst e
  have hy:=yl xs hl
  have hm:y∈xs:=List.mem_of_getElem? hy
  have tk:=take_succ_filter p xs i y hy
  refine ht y hm _ ?_
  cases hp:p y with
  |true=>
   rw [hp] at tk
   rw [if_pos rfl]
   exact he y hm _ ⟨xs.length - (i+1),by omega,rfl,hlt,rfl,by rw [tk]; rfl⟩
  |false=>
   rw [hp] at tk
   rw [if_neg (by decide)]
   exact ⟨xs.length - (i+1),by omega,rfl,hlt,rfl,by rw [tk]; simp⟩
 ·have e:i=xs.length:=by omega
  subst e
  refine .inl ⟨⟨xs,hl,Nat.le_refl _⟩,?_⟩
  rw [List.take_length]
  exact hd
end
def plF (wl g nw:Addr) (n:Int) (j:Addr) (co:V) (du:Addr):List (Str × V):=[("walls",.ref wl),("goings",.ref g),("now",.ref nw),("gone_through",.int n),("joints",.ref j),("coming",co),("due",.ref du)]
theorem plF_nm {wl g nw:Addr} {n:Int} {j:Addr} {co:V} {du:Addr}:NoM (plF wl g nw n j co du):=⟨rfl,rfl,rfl,rfl,rfl,rfl,rfl,rfl,rfl,rfl,rfl,rfl,rfl,rfl,rfl,rfl,rfl⟩
def ZY (K:PySem.W.Frag) (H:Hp) (C p:Addr) (R:Rat × Rat) (gs:List Bq) (now:Rat) (n:Nat) (wl g j:Addr):Prop:=∃ (dx nw:Addr) (co:V) (du:Addr) (xs:List V) (kvs:List (List Key × V)) (ds:List V),
 PlG K H C p R gs dx (plF wl g nw (n:Int) j co du) wl g xs/\PlJ K H R gs (plF wl g nw (n:Int) j co du) j kvs/\H j=some (.dT kvs)/\wl≠j/\FQ K H nw now/\FB 2000 now/\OptB K H co (comP R gs now)/\H du=some (.lst ds)/\Al2 (PrH H) ds (dueP R gs now)/\du≠g
section
variable {K:PySem.W.Frag} {H H':Hp} {C p:Addr} {R:Rat × Rat} {gs:List Bq} {now:Rat} {n:Nat} {wl g j:Addr}
theorem ZY.same (h:ZY K H C p R gs now n wl g j) (s:Same H H'):ZY K H' C p R gs now n wl g j:=by
 obtain ⟨dx,nw,co,du,xs,kvs,ds,h1,h2,h3,h4,h5,h6,h7,h8,h9,h10⟩:=h
 exact ⟨dx,nw,co,du,xs,kvs,ds,h1.same s,h2.same s,s _ _ h3,h4,Kw.Same.tup s h5,h6,h7.same s,s _ _ h8,zy h9 s,h10⟩
theorem due_few (l6:gs.length<=6):(dueP R gs now).length<=200:=Nat.le_trans (List.length_filter_le _ _) (Z8 l6)
theorem ju:∀ q∈dueP R gs now,InP gs.length q:=fun q hq=>yK.mp (List.mem_filter.mp hq).1
theorem Z7:∀ (l:List Pr) (gs:List Bq),(l.foldl (prtP R) gs).length=gs.length
 |[],_=>rfl
 |q::l,gs=>by rw [List.foldl_cons,Z7 l,yz]
theorem Yz:∀ (l:List Pr) {gs:List Bq} {B:Nat},CmP B R gs->WtB gs->(∀ q∈l,InP gs.length q)->CmP (B+15 * l.length) R (l.foldl (prtP R) gs)/\WtB (l.foldl (prtP R) gs)
 |[],_,_,h,w,_=>⟨h,w⟩
 |q::l,gs,B,h,w,hl=>by
  have hq:=hl q (List.mem_cons_self ..)
  have z:=Yz l (h.part w hq) (prt_wt w hq) fun r hr=>by rw [yz]; exact hl r (List.mem_cons_of_mem _ hr)
  rw [List.foldl_cons,List.length_cons,show B+15 * (l.length+1)=B+15+15 * l.length by omega]
  exact z
theorem due_six (l6:gs.length<=6) (h:twoP (dueP R gs now)=false):(dueP R gs now).length<=6:=by
 have nd:(numP (dueP R gs now)).Nodup:=by
  unfold twoP at h
  have:=of_decide_eq_false h
  exact Decidable.not_not.mp this
 have lt:∀ i∈numP (dueP R gs now),0<=i/\i < 6:=fun i hi=>by
  unfold numP at hi
  obtain ⟨h1,h2⟩:=List.mem_filter.mp hi
  have i0:=of_decide_eq_true h2
  refine ⟨i0,?_⟩
  rcases List.mem_append.mp h1 with z|z
  ·obtain ⟨q,hq,rfl⟩:=List.mem_map.mp z
   have:=(ju q hq).l1 (gs:=gs) i0
   omega
  ·obtain ⟨q,hq,rfl⟩:=List.mem_map.mp z
   have:=(ju q hq).l2 (gs:=gs) i0
   omega
 have l1:(numP (dueP R gs now)).length<=6:=by
  have z:(numP (dueP R gs now)) ⊆ (List.range 6).map fun (i:Nat)=>(i:Int):=fun i hi=>by
   have:=lt i hi
   exact List.mem_map.mpr ⟨i.toNat,List.mem_range.mpr (by omega),by omega⟩
  have:=List.Nodup.length_le_of_subset nd z
  simpa using this
 have l2:∀ l:List Pr,(∀ q∈l,InP gs.length q)->l.length<=(numP l).length:=fun l=>by
  induction l with
  |nil=>exact fun _=>Nat.le_refl _
  |cons q l ih=>
   intro hl
   have z:=ih fun r hr=>hl r (List.mem_cons_of_mem _ hr)
   have hq:=(hl q (List.mem_cons_self ..)).2.2.2.2
   unfold numP at z ⊢
   simp only [List.map_cons,List.filter_append,List.length_append,List.filter_cons] at z ⊢
   rcases hq with hq|hq
   ·rw [if_pos (decide_eq_true hq)]
    split<;>simp only [List.length_cons]<;>omega
   ·rw [if_pos (decide_eq_true hq)]
    split<;>simp only [List.length_cons]<;>omega
 have:=l2 (dueP R gs now) ju
 omega
end
def tPairs:List (TE × TE)->L2.St->Hp->(List (V × V)->Hp->Prop)->Prop
 |[],_,H,Q=>Q [] H
 | (tk,tv)::r,σ,H,Q=>tk σ H fun k H1=>tv σ H1 fun v H2=>tPairs r σ H2 fun l H3=>Q ((k,v)::l) H3
def KeysT (H:Hp):List (V × V)->List (List Key × V)->Prop
 |[],[]=>True
 | (k,v)::r,e::es=>(∃ b,k=.ref b/\H b=some (.tup (e.1.map kV)))/\v=e.2/\KeysT H r es
 |_,_=>False
def Y7 (l:List (List Key × V)):List (List Key × V)->List (List Key × V):=fun es=>es.foldl (fun a e=>putK a e.1 e.2) l
def tDictT (ts:List (TE × TE)):TE:=fun σ H Q=>∀ d,H d=none->tPairs ts σ (upd H d (.dT [])) fun l H1=>H1 d=some (.dT [])/\∃ es:List (List Key × V),KeysT H1 l es/\es.length<=100/\Q (.ref d) (upd H1 d (.dT (Y7 [] es)))
inductive PPs (X:Cx):List (Option Expr)->List Expr->List (TE × TE)->Prop
 |nil:PPs X [] [] []
 |cons {k v:Expr} {ks:List (Option Expr)} {vs:List Expr} {tk tv:TE} {ts:List (TE × TE)}:PE X k tk->PE X v tv->PPs X ks vs ts->PPs X (some k::ks) (v::vs) ((tk,tv)::ts)
def RelP:List (V × V)->List (Value × Value)->Prop
 |[],[]=>True
 | (k,v)::r,(k',v')::r'=>RelV k k'/\RelV v v'/\RelP r r'
 |_,_=>False
section
variable {X:Cx} {pos:Pos}
theorem pairs_walk {ks:List (Option Expr)} {vs:List Expr} {ts:List (TE × TE)} (h:PPs X ks vs ts):∀ (pins:List (Addr × Obj)) (s:Shared) (σ:L2.St) (H:Hp) (Q:List (V × V)->Hp->Prop) (I:Inv X pins σ H s),tPairs ts σ H Q->
  wpAny (model X.prog X.w) X.A (evalPairs (pairTrees ks vs X.env pos)) (fun us s'=>∃ l H',Inv X pins σ H' s'/\RelP l us/\Q l H') X.xe s:=by
 induction h with
 |nil=>exact fun pins s σ H Q I q=>wpAny_pure ⟨[],H,I,trivial,q⟩
 |@cons k v ks vs tk tv ts hk hv hr ih=>
  intro pins s σ H Q I q
  show wpAny _ _ (evalPairs ((eval k X.env,do let x <- eval v X.env; standAt pos; pure x)::pairTrees ks vs X.env pos)) _ _ s
  unfold evalPairs
  refine wpAny_bind (thn (hk pins s σ H _ I q) fun u s1 zz=>?_)
  obtain ⟨y,H1,I1,r1,q1⟩:=zz
  refine wpAny_bind (wpAny_holding ?_)
  refine wpAny_bind (thn (hv pins s1 σ H1 _ I1 q1) fun u2 s2 zz=>?_)
  obtain ⟨y2,H2,I2,r2,q2⟩:=zz
  refine wpAny_bind (wpAny_standAt (wpAny_pure ?_))
  refine wpAny_bind (wpAny_holding ?_)
  refine wpAny_mono (ih pins s2 σ H2 _ I2 q2) (fun us s3 ⟨l,H3,I3,r3,q3⟩=>?_) (fun _ _ e=>e)
  exact wpAny_pure ⟨(y,y2)::l,H3,I3,⟨r1,r2,r3⟩,q3⟩
theorem J4 {H H':Hp} (k:∀ c ys,H c=some (.tup ys)->H' c=some (.tup ys)):∀ (l:List (V × V)) (es:List (List Key × V)),KeysT H l es->KeysT H' l es
 |[],[],_=>trivial
 | (_,_)::r,_::es,⟨⟨b,e,hb⟩,ev,t⟩=>⟨⟨b,e,k b _ hb⟩,ev,J4 k r es t⟩
 |[],_::_,h=>h.elim
 |_::_,[],h=>h.elim
theorem pps_len {ks:List (Option Expr)} {vs:List Expr} {ts:List (TE × TE)} (h:PPs X ks vs ts):ks.length=vs.length:=by
 induction h with
 |nil=>rfl
 |cons _ _ _ ih=>exact congrArg (·+1) ih
theorem some_all {ks:List (Option Expr)} {vs:List Expr} {ts:List (TE × TE)} (h:PPs X ks vs ts):ks.all (·.isSome)=true:=by
 induction h with
 |nil=>rfl
 |cons _ _ _ ih=>exact ih
theorem store_all (hu:X.A.units+1 < cLine) {d:Addr} {pins:List (Addr × Obj)} {σ:L2.St} {Q:Hp->Prop}:∀ (l:List (V × V)) (us:List (Value × Value)) (es kvs:List (List Key × V)) (s:Shared) (H:Hp) (I:Inv X pins σ H s),RelP l us->KeysT H l es->H d=some (.dT kvs)->kvs.length+es.length<=1000->Q (upd H d (.dT (Y7 kvs es)))->
  wpAny (model X.prog X.w) X.A (storeAll d us) (fun _ s'=>∃ H',Inv X pins σ H' s'/\Q H') X.xe s
 |[],[],[],kvs,s,H,I,_,_,hd,_,q=>by
  refine wpAny_pure ⟨_,I,?_⟩
  have e:upd H d (.dT (Y7 kvs []))=H:=by
   funext b
   by_cases z:b=d
   ·subst z
    rw [zq,hd]
    rfl
   ·rw [zX z]
  rw [<- e]
  exact q
 | (k,v)::l,(k',v')::us,e::es,kvs,s,H,I,r,ky,hd,hz,q=>by
  obtain ⟨rk,rv,rr⟩:=r
  obtain ⟨⟨b,rfl,hb⟩,ev,kr⟩:=ky
  subst ev
  cases (show k'=Value.ref b from rk)
  show wpAny _ _ (forIn ((Value.ref b,v')::us) PUnit.unit fun (x:Value × Value) (_:PUnit)=>(do dictSet d x.1 x.2; pure (ForInStep.yield PUnit.unit):Sem (ForInStep PUnit))) _ _ s
  rw [List.forIn_cons]
  obtain ⟨z,hsm,xs,rel,dd⟩:=dt_of I.hok hd
  have hx:xs.length<=sizeLine:=by rw [<- Paired.length rel]; exact z
  have hz':kvs.length+(es.length+1)<=1000:=hz
  have hl:(putK kvs e.1 e.2).length<=sizeLine:=by have:=jj kvs e.1 e.2; rw [sizeLine_eq]; omega
  refine wpAny_bind (wpAny_bind (wpAny_dictSet_heap (hsz:=hx) (knd:=tupleKind (yE X.prog X.w)) (Nat.lt_of_succ_lt hu) (key_of I.hok hb) dd fun h' dd' hs=>wpAny_pure ?_))
  obtain ⟨o,eo,ep,hq,h2,h3,h4,_,h5⟩:=dd'
  have I2:Inv X pins σ (upd H d (.dT (putK kvs e.1 e.2))) {s with heap:=h',toks:=s.toks+(tupleKind (yE X.prog X.w)).draws e.1}:=by
   refine JV I (by rw [hd]; exact True.intro) hs ⟨o,hq⟩ ⟨hl,hsm,_,(rel.put e.1 hb rv).keeps fun c ys ec=>?_,o,eo,ep,hq,h2,h3,h4,h5⟩
   rw [zX (zw ec hd (fun z=>nomatch z))]
   exact ec
  have hlen:(putK kvs e.1 e.2).length<=kvs.length+1:=jj kvs e.1 e.2
  exact store_all hu l us es (putK kvs e.1 e.2) _ _ I2 rr (J4 (fun c ys ec=>by rw [zX (zw ec hd (fun z=>nomatch z))]; exact ec) l es kr) zq (by omega) (by rw [upd_upd]; exact q)
 |[],_::_,_,_,_,_,_,r,_,_,_,_=>r.elim
 |_::_,[],_,_,_,_,_,r,_,_,_,_=>r.elim
 |[],[],_::_,_,_,_,_,_,ky,_,_,_=>ky.elim
 |_::_,_::_,[],_,_,_,_,_,ky,_,_,_=>ky.elim
theorem pe_dictT (hu:X.A.units+1 < cLine) {ks:List (Option Expr)} {vs:List Expr} {ts:List (TE × TE)} (h:PPs X ks vs ts) (h0:ks≠[]) (hn:ks.length<=15):PE X (.Dict ks vs pos) (tDictT ts):=by
 intro pins s σ H Q I q
 refine wpAny_Dict_any (some_all h) (pps_len h) h0 hn ?_
 have I1:=I.laid (a:=s.heap.objs.size) (o:=.dT []) (t':=s.toks) (fun _ _ q=>Heap.get?_push_of_some _ q) (Nat.le_refl _) (dt_empty s.heap I.big)
 refine wpAny_mono (pairs_walk h pins _ σ _ _ I1 (q s.heap.objs.size (I.hok.fresh (Nat.le_refl _)))) (fun us s1 ⟨l,H1,I2,rp,hd,es,ky,hl,q1⟩=>?_) (fun _ _ e=>e)
 exact wpAny_mono (store_all hu l us es [] s1 H1 I2 rp ky hd (by simp only [List.length_nil]; omega) q1) (fun _ s2 ⟨H2,I3,q2⟩=>⟨.ref s.heap.objs.size,H2,I3,rfl,q2⟩) (fun _ _ e=>e)
end
section
variable {K:PySem.W.Frag} {H H':Hp} {p:Addr}
theorem z9 (h:SqT K H p [.int 0,.int 1]):FQ K H p 0:=h
theorem fq_one (h:SqT K H p [.int 1,.int 1]):FQ K H p 1:=h
theorem fq_mone (h:SqT K H p [.int (-1),.int 1]):FQ K H p (-1):=h
theorem yB:FB 1990 (0:Rat):=(FB.ofInt (n:=64) (i:=0) (Bd.small (by decide) (by decide)) (by decide)).mono (by decide)
theorem fb_one:FB 1990 (1:Rat):=(FB.ofInt (n:=64) (i:=1) (Bd.small (by decide) (by decide)) (by decide)).mono (by decide)
theorem fb_mone:FB 1990 (-1:Rat):=(FB.ofInt (n:=64) (i:=-1) (Bd.small (by decide) (by decide)) (by decide)).mono (by decide)
def WlT (K:PySem.W.Frag) (H:Hp) (z:V) (b:Bq):Prop:=∃ p a0 a1 a2 a3 a4 a5,z=.ref p/\SqT K H p [.ref a0,.ref a1,.ref a2,.ref a3,.ref a4,.ref a5,.non]/\(FQ K H a0 b.x/\FQ K H a1 b.y/\FQ K H a2 b.w/\FQ K H a3 b.h/\FQ K H a4 b.u/\FQ K H a5 b.v)
theorem wls_new {R:Rat × Rat} {H14:Hp} {d:Addr} {w0 w1 w2 w3:V} (fx:FB 1990 R.1) (fy:FB 1990 R.2) (n:H d=none) (s:Same H H14) (hd:H14 d=some (.dT [])) (h0:WlT K H14 w0 (jT R 0 (-1))) (h1:WlT K H14 w1 (jT R 0 (-2))) (h2:WlT K H14 w2 (jT R 1 (-1))) (h3:WlT K H14 w3 (jT R 1 (-2))) :
  Same H (upd H14 d (.dT (Y7 [] [(keyW 0 (-1),w0),(keyW 0 (-2),w1),(keyW 1 (-1),w2),(keyW 1 (-2),w3)])))/\Wls K (upd H14 d (.dT (Y7 [] [(keyW 0 (-1),w0),(keyW 0 (-2),w1),(keyW 1 (-1),w2),(keyW 1 (-2),w3)]))) d R:=by
 have e:Y7 [] [(keyW 0 (-1),w0),(keyW 0 (-2),w1),(keyW 1 (-1),w2),(keyW 1 (-2),w3)]=[(keyW 0 (-1),w0),(keyW 0 (-2),w1),(keyW 1 (-1),w2),(keyW 1 (-2),w3)]:=by with_unfolding_all rfl
 rw [e]
 have bs:Buts [d] H14 (upd H14 d (.dT [(keyW 0 (-1),w0),(keyW 0 (-2),w1),(keyW 1 (-1),w2),(keyW 1 (-2),w3)])):=fun a o na ha=>by
  have ne:a≠d:=fun z=>na (by rw [z]; exact List.mem_cons_self ..)
  rw [zX ne]
  exact ha
 have nt:NoT [d] H14:=NoT.dct hd NoT.nil
 have g:∀ {z:V} {b:Bq},WlT K H14 z b->b.m=none->(FB 1990 b.x/\FB 1990 b.y/\FB 1990 b.w/\FB 1990 b.h/\FB 1990 b.u/\FB 1990 b.v)->BqH K 1990 H14 z b:=fun ⟨p,a0,a1,a2,a3,a4,a5,ez,h,f⟩ em db=>⟨p,a0,a1,a2,a3,a4,a5,ez,by rw [em]; exact h,f,db,by rw [em]; exact fun m z=>nomatch z⟩
 refine ⟨fun a o ha=>?_,w0,w1,w2,w3,zq,(g h0 rfl ⟨fb_mone,yB,fb_one,fy,yB,yB⟩).buts bs nt,(g h1 rfl ⟨fx,yB,fb_one,fy,yB,yB⟩).buts bs nt,(g h2 rfl ⟨yB,fb_mone,fx,fb_one,yB,yB⟩).buts bs nt,(g h3 rfl ⟨yB,fy,fx,fb_one,yB,yB⟩).buts bs nt⟩
 rw [zX (fun z=>by rw [z,n] at ha; cases ha)]
 exact s _ _ ha
end
def onesN (n:Nat):List Int:=(-1:Int)::(List.range n).map fun (i:Nat)=>(i:Int)
def JT (n:Nat):List Int:=(-2:Int)::(List.range n).map fun (i:Nat)=>(i:Int)
def okP (one o:Int):Bool:=decide (one≠o) && (decide (0<=one) || decide (0<=o))
theorem prs1_eq {n d:Nat} {one:Int}:prs1 n d one=((JT n).filter (okP one)).map fun o=>(d,one,o):=rfl
theorem prsD_eq {n d:Nat}:prsD n d=(onesN n).flatMap (prs1 n d):=rfl
theorem ones_at {n i:Nat} (h:i<=n):(onesN n)[i]?=some (-1+(i:Int)):=by
 unfold onesN
 cases i with
 |zero=>rfl
 |succ k=>
  rw [List.getElem?_cons_succ,List.getElem?_map,List.getElem?_range (by omega)]
  show some ((k:Nat):Int)=_
  congr 1
  omega
theorem oth_len {n:Nat}:(JT n).length=n+1:=by simp [JT]
theorem ones_len {n:Nat}:(onesN n).length=n+1:=by simp [onesN]
theorem oth_vs {n:Nat}:[V.int (-2)]++((List.range n).map fun (i:Nat)=>V.int (i:Int))=(JT n).map V.int:=by
 simp [JT]
theorem putK_snoc {kvs:List (List Key × V)} {ps:List Pr} {i:Nat} {q:Pr} {v:V} (nd:(ps.map keyP).Nodup) (hk:kvs.map (·.1)=(ps.take i).map keyP) (hq:ps[i]?=some q):putK kvs (keyP q) v=kvs++[(keyP q,v)]:=by
 unfold putK
 refine if_neg fun h=>?_
 obtain ⟨kv,hm,e⟩:=List.any_eq_true.mp h
 have e:=of_decide_eq_true e
 have hin:keyP q∈(ps.take i).map keyP:=by
  rw [<- hk,<- e]
  exact List.mem_map_of_mem hm
 have nd2:((ps.take (i+1)).map keyP).Nodup:=nd.sublist ((List.take_sublist _ _).map _)
 rw [zY hq,List.map_append] at nd2
 exact (List.nodup_append.mp nd2).2.2 _ hin _ (List.mem_singleton.mpr rfl) rfl
def InR (R:Rat × Rat) (b:Bq):Prop:=0 < b.w/\0 < b.h/\0<=b.x/\0<=b.y/\b.far 0<=R.1/\b.far 1<=R.2
structure GdP (R:Rat × Rat) (gs:List Bq):Prop where
 r1:0 < R.1
 r2:0 < R.2
 l1:1<=gs.length
 l6:gs.length<=6
 wt:WtB gs
 al:∀ b∈gs,InR R b
 ap:∀ i j,i < j->j < gs.length->(hicB (bxAt gs i) (bxAt gs j) 0 && hicB (bxAt gs i) (bxAt gs j) 1)=false
theorem Zx {gs:List Bq} {i:Nat} {b:Bq} (h:gs[i]?=some b):bxAt gs i=b:=by
 unfold bxAt
 rw [List.getD_eq_getElem?_getD,h]
 rfl
theorem Yr {x y:Rat} (h:x<=y):¬ y < x:=Rat.not_lt.mpr h
section
variable {s:Rat} {b c:Bq} {d:Nat}
end
section
variable {s:Rat} {R:Rat × Rat} {gs bs:List Bq} {d:Nat}
theorem mul_le_q {x y:Rat} (hs:0 < s):s * x<=s * y↔x<=y:=by
 constructor
 ·intro h
  exact Rat.not_lt.mp fun z=>by
   have:=Rat.mul_lt_mul_of_pos_left z hs
   exact Rat.not_lt.mpr h this
 ·exact fun h=>Rat.mul_le_mul_of_nonneg_left h (Rat.le_of_lt hs)
theorem mul_lt_q {x y:Rat} (hs:0 < s):s * x < s * y↔x < y:=by
 rw [<- Rat.not_le,<- Rat.not_le,mul_le_q hs]
end
theorem Z3 {s x:Rat} (hs:0 < s) (hx:0 < x):0 < s * x:=by
 have:=(mul_lt_q (x:=0) (y:=x) hs).mpr hx
 rwa [Rat.mul_zero] at this
theorem j8 {s x:Rat} (hs:0 < s) (hx:0<=x):0<=s * x:=by
 have:=(mul_le_q (x:=0) (y:=x) hs).mpr hx
 rwa [Rat.mul_zero] at this
section
variable {K:PySem.W.Frag} {H H':Hp} {v:V} {r:List Int × Int} {z:Scn} {as:List Addr}
end
section
variable {a d b:Rat} {c:Int}
end
theorem wd_lay {wd:String} (h:wd="still"\/wd="more"\/wd="crowd"):(PyData.str wd).canLay0=true:=by
 rcases h with rfl|rfl|rfl<;>decide+kernel
section
variable {u:Rat}
end
section
variable {K:PySem.W.Frag} {tt:TT} {te:TE} {idx:List Nat} {σ:L2.St} {Q:VK} {H:Hp}
end
def wtD:Option Int->PyData
 |none=>.none
 |some m=>.int m
def bqD (b:Bq):PyData:=.tuple [frD b.x,frD b.y,frD b.w,frD b.h,frD b.u,frD b.v,wtD b.m]
theorem wtD_dp {K:PySem.W.Frag} {H:Hp} (o:Option Int):Dp K H (wV o) (wtD o):=by
 cases o with
 |none=>exact .non
 |some m=>exact .int _
theorem BqH.dp {K:PySem.W.Frag} {H:Hp} {N:Nat} {z:V} {b:Bq} (h:BqH K N H z b):Dp K H z (bqD b):=by
 obtain ⟨p,a0,a1,a2,a3,a4,a5,rfl,h1,⟨g0,g1,g2,g3,g4,g5⟩,d⟩:=h
 exact .tup h1 (.cons (FQ.dp g0) (.cons (FQ.dp g1) (.cons (FQ.dp g2) (.cons (FQ.dp g3) (.cons (FQ.dp g4) (.cons (FQ.dp g5) (.cons (wtD_dp _) .nil)))))))
theorem bqs_dp {K:PySem.W.Frag} {H:Hp} {N:Nat}:∀ {xs:List V} {bs:List Bq},Al2 (BqH K N H) xs bs->Dps K H xs (bs.map bqD)
 |[],[],_=>.nil
 |_::_,_::_,z=>.cons z.1.dp (bqs_dp z.2)
 |[],_::_,z=>z.elim
 |_::_,[],z=>z.elim
theorem bq_lay (b:Bq):PyData.canLay0 (bqD b)=true:=by
 unfold bqD
 cases b.m<;>rfl
theorem bqs_lay:∀ bs:List Bq,PyData.canLayAll0 (bs.map bqD)=true
 |[]=>rfl
 |m::ms=>by
  show (PyData.canLay0 (bqD m) && PyData.canLayAll0 (ms.map bqD))=true
  rw [bqs_lay ms,bq_lay m]
  rfl
theorem bq_deep (b:Bq):PyData.depth (bqD b)=2:=by
 unfold bqD
 cases b.m<;>rfl
theorem J0:∀ bs:List Bq,PyData.depthAll (bs.map bqD)<=2
 |[]=>Nat.zero_le _
 |m::ms=>by
  show max (PyData.depth (bqD m)) (PyData.depthAll (ms.map bqD))<=2
  have e:=bq_deep m
  have:=J0 ms
  omega
theorem bqs_ok (bs:List Bq):(PyData.list (bs.map bqD)).canLay0=true/\Nat.ble (PyData.list (bs.map bqD)).depth 60=true:=by
 refine ⟨bqs_lay bs,Nat.ble_eq_true_of_le ?_⟩
 have h1:=J0 bs
 show PyData.depthAll (bs.map bqD)+1<=60
 omega
def wdS (d:Nat):String:=if d=0 then "across" else "along"
def mpD (m:Rat × Pr):PyData:=.tuple [frD m.1,.str (Str.ofString (wdS m.2.1)),.int m.2.2.1,.int m.2.2.2]
theorem wdS_lay (d:Nat):PyData.canLay0 (.str (Str.ofString (wdS d)))=true:=by
 unfold wdS
 split<;>decide+kernel
theorem mps_lay:∀ ms:List (Rat × Pr),PyData.canLayAll0 (ms.map mpD)=true
 |[]=>rfl
 |m::ms=>by
  show ((PyData.canLay0 (frD m.1) && (PyData.canLay0 (.str (Str.ofString (wdS m.2.1))) && true)) && PyData.canLayAll0 (ms.map mpD))=true
  rw [mps_lay ms,wdS_lay]
  rfl
theorem mps_deep:∀ ms:List (Rat × Pr),PyData.depthAll (ms.map mpD)<=2
 |[]=>Nat.zero_le _
 |m::ms=>by
  show max (PyData.depth (mpD m)) (PyData.depthAll (ms.map mpD))<=2
  have e:PyData.depth (mpD m)=2:=rfl
  have:=mps_deep ms
  omega
def tlpD (wd:String) (ms:List (Rat × Pr)) (bs:List Bq) (last:Rat):PyData:=.tuple [.str wd,.list (ms.map mpD),.list (bs.map bqD),frD last]
theorem tlp_ok {wd:String} (hw:wd="still"\/wd="more"\/wd="crowd") (ms:List (Rat × Pr)) (bs:List Bq) (last:Rat):(tlpD wd ms bs last).canLay0=true/\Nat.ble (tlpD wd ms bs last).depth 60=true:=by
 constructor
 ·show (PyData.canLay0 (.str wd) && (PyData.canLayAll0 (ms.map mpD) && (PyData.canLayAll0 (bs.map bqD) && (PyData.canLay0 (frD last) && true))))=true
  rw [mps_lay,bqs_lay,wd_lay hw]
  rfl
 ·refine Nat.ble_eq_true_of_le ?_
  have h1:=mps_deep ms
  have h2:=J0 bs
  have e:(tlpD wd ms bs last).depth=max 0 (max (PyData.depthAll (ms.map mpD)+1) (max (PyData.depthAll (bs.map bqD)+1) (max 1 0)))+1:=rfl
  omega
theorem at_nought (b:Bq):atB 0 b=b:=by
 unfold atB
 cases b
 simp [Rat.add_zero]
theorem ats_nought (bs:List Bq):bs.map (atB 0)=bs:=by
 rw [show atB 0=id from funext at_nought,List.map_id]
theorem rt42 {n b:Int} (hb:b=1\/b=2\/b=3\/b=7) (h1:-1000<=n) (h2:n<=1000):Rt 42 20 (Rat.divInt n b):=by
 have p:(2:Nat) ^ 20=1048576:=by decide
 rcases hb with rfl|rfl|rfl|rfl
 ·refine ⟨n * 42,?_,by omega⟩
  rw [Rat.divInt_eq_div,Rat.intCast_mul]
  show (n:Rat) / 1=(n:Rat) * 42 / 42
  grind
 ·refine ⟨n * 21,?_,by omega⟩
  rw [Rat.divInt_eq_div,Rat.intCast_mul]
  show (n:Rat) / 2=(n:Rat) * 21 / 42
  grind
 ·refine ⟨n * 14,?_,by omega⟩
  rw [Rat.divInt_eq_div,Rat.intCast_mul]
  show (n:Rat) / 3=(n:Rat) * 14 / 42
  grind
 ·refine ⟨n * 6,?_,by omega⟩
  rw [Rat.divInt_eq_div,Rat.intCast_mul]
  show (n:Rat) / 7=(n:Rat) * 6 / 42
  grind
theorem rt42i {n:Int} (h1:-1000<=n) (h2:n<=1000):Rt 42 20 (n:Rat):=by
 have z:=rt42 (n:=n) (b:=1) (.inl rfl) h1 h2
 rwa [Rat.divInt_eq_div,show (n:Rat) / ((1:Int):Rat)=(n:Rat) from by show (n:Rat) / 1=(n:Rat); grind] at z
theorem Rt.f42 {x:Rat} (h:Rt 42 20 x):FB 1990 x:=(h.fb (by decide) (by decide)).mono (by decide)
def RmQ (R:Rat × Rat):Prop:=4<=R.1/\4<=R.2/\Rt 42 20 R.1/\Rt 42 20 R.2
def App (gs:List Bq):Prop:=∀ i j,i < j->j < gs.length->(hicB (bxAt gs i) (bxAt gs j) 0 && hicB (bxAt gs i) (bxAt gs j) 1)=false
theorem hicB_comm (a b:Bq) (d:Nat):hicB a b d=hicB b a d:=by
 unfold hicB
 rw [Bool.and_comm]
theorem rm_int {a b:Int} (h1:6<=a) (h2:a<=12) (h3:4<=b) (h4:b<=10):RmQ ((a:Rat),(b:Rat)):=
 ⟨by show ((4:Int):Rat)<=(a:Rat); exact Rat.intCast_le_intCast.mpr (by omega),by show ((4:Int):Rat)<=(b:Rat); exact Rat.intCast_le_intCast.mpr (by omega),rt42i (by omega) (by omega),rt42i (by omega) (by omega)⟩
theorem le_div7 {a:Int} (h:28<=a):(4:Rat)<=Rat.divInt a 7:=by
 rw [Rat.divInt_eq_div]
 have z:((28:Int):Rat)<=(a:Rat):=Rat.intCast_le_intCast.mpr h
 have e:((28:Int):Rat)=28:=rfl
 have e7:((7:Int):Rat)=7:=rfl
 rw [e] at z
 rw [e7]
 grind
theorem rm_sev {a b:Int} (h1:30<=a) (h2:a<=100) (h3:30<=b) (h4:b<=100):RmQ (Rat.divInt a 7,Rat.divInt b 7):=
 ⟨le_div7 (by omega),le_div7 (by omega),rt42 (n:=a) (b:=7) (by decide) (by omega) (by omega),rt42 (n:=b) (b:=7) (by decide) (by omega) (by omega)⟩
section
variable {R:Rat × Rat} {gs:List Bq} {now t:Rat}
theorem step_le {c:Option Rat} {p:Pr} {T:Rat} (h:c=some T):∃ T',ya R gs now c p=some T'/\T'<=T:=by
 subst h
 unfold ya
 split
 ·rename_i e
  rw [Bool.and_eq_true] at e
  obtain ⟨e1,_⟩:=e
  cases j:jntP R gs p with
  |none=>rw [j] at e1; cases e1
  |some s=>
   rw [j] at e1
   unfold Zd at e1
   dsimp only at e1
   split at e1
   ·cases e1
   ·exact ⟨s,rfl,Rat.le_of_lt (of_decide_eq_true e1)⟩
 ·exact ⟨T,rfl,Rat.le_refl⟩
theorem fold_le:∀ (l:List Pr) {c:Option Rat} {T:Rat},c=some T->∃ T',l.foldl (ya R gs now) c=some T'/\T'<=T
 |[],c,T,h=>⟨T,h,Rat.le_refl⟩
 |p::l,c,T,h=>by
  obtain ⟨T1,e1,l1⟩:=step_le (R:=R) (gs:=gs) (now:=now) (p:=p) h
  obtain ⟨T2,e2,l2⟩:=fold_le l e1
  exact ⟨T2,e2,Rat.le_trans l2 l1⟩
theorem step_at {c:Option Rat} {p:Pr} {s:Rat} (j:jntP R gs p=some s) (n:now<=s) (m:(metP R gs s p || corP R gs p)=true):∃ T,ya R gs now c p=some T/\T<=s:=by
 have ns:¬ s < now:=Rat.not_lt.mpr n
 unfold ya
 rw [j]
 show ∃ T,(if (Zd now c (some s) && (metP R gs s p || corP R gs p))=true then some s else c)=some T/\T<=s
 rw [m,Bool.and_true]
 cases c with
 |none=>
  have e:Zd now none (some s)=true:=by
   unfold Zd
   dsimp only
   rw [if_neg ns]
  rw [e]
  exact ⟨s,rfl,Rat.le_refl⟩
 |some r=>
  have e:Zd now (some r) (some s)=decide (s < r):=by
   unfold Zd
   dsimp only
   rw [if_neg ns]
  rw [e]
  by_cases c:s < r
  ·rw [decide_eq_true c]
   exact ⟨s,rfl,Rat.le_refl⟩
  ·rw [decide_eq_false c]
   exact ⟨r,rfl,Rat.not_lt.mp c⟩
theorem Jt {p:Pr} {s:Rat} (hp:InP gs.length p) (j:jntP R gs p=some s) (n:now<=s) (m:(metP R gs s p || corP R gs p)=true):∃ T,comP R gs now=some T/\T<=s:=by
 unfold comP
 obtain ⟨a,b,e⟩:=List.append_of_mem (yK.mpr hp)
 rw [e,List.foldl_append,List.foldl_cons]
 obtain ⟨T1,e1,l1⟩:=step_at (c:=a.foldl (ya R gs now) none) j n m
 obtain ⟨T2,e2,l2⟩:=fold_le b e1
 exact ⟨T2,e2,Rat.le_trans l2 l1⟩
def ComG (R:Rat × Rat) (gs:List Bq) (now T:Rat):Prop:=now<=T/\∃ p,InP gs.length p/\jntP R gs p=some T/\(metP R gs T p || corP R gs p)=true
theorem fold_good:∀ (l:List Pr) {c:Option Rat},(∀ p∈l,InP gs.length p)->(∀ T,c=some T->ComG R gs now T)->∀ T,l.foldl (ya R gs now) c=some T->ComG R gs now T
 |[],_,_,h=>h
 |p::l,c,hl,h=>by
  rw [List.foldl_cons]
  refine fold_good l (fun q hq=>hl q (List.mem_cons_of_mem _ hq)) fun T e=>?_
  unfold ya at e
  split at e
  ·rename_i y
   rw [Bool.and_eq_true] at y
   obtain ⟨y1,y2⟩:=y
   rw [e] at y1 y2
   unfold Zd at y1
   dsimp only at y1
   split at y1
   ·cases y1
   ·rename_i z
    exact ⟨Rat.not_lt.mp z,p,hl p (List.mem_cons_self ..),e,y2⟩
  ·exact h T e
theorem Jz {T:Rat} (h:comP R gs now=some T):ComG R gs now T:=fold_good (prsP gs.length) (c:=none) (fun p hp=>yK.mp hp) (fun T e=>(nomatch e)) T h
end
theorem YA (b:Bq) (t:Rat) (d:Nat):(atB t b).pl d=b.pl d+b.sp d * t:=by
 unfold atB Bq.pl Bq.sp
 split<;>rfl
theorem at_sz (b:Bq) (t:Rat) (d:Nat):(atB t b).sz d=b.sz d:=rfl
theorem ZM (b:Bq) (t:Rat) (d:Nat):(atB t b).far d=b.far d+b.sp d * t:=by
 unfold Bq.far
 rw [YA,at_sz]
 grind
theorem jG {k x y:Rat} (hk:0 < k) (h:0<=k * (y - x)):x<=y:=by
 rcases (Rat.le_total (a:=x) (b:=y)) with z|z
 ·exact z
 ·rcases Classical.em (x=y) with e|e
  ·rw [e]; exact Rat.le_refl
  ·have lt:y < x:=Rat.lt_of_le_of_ne z (Ne.symm e)
   have:=Z3 hk (show 0 < x - y by grind)
   grind
theorem lt_of_mul_q {k x y:Rat} (hk:0 < k) (h:0 < k * (y - x)):x < y:=by
 rcases (Rat.le_total (a:=y) (b:=x)) with z|z
 ·have:=j8 hk (show 0<=x - y by grind)
  grind
 ·rcases Classical.em (x=y) with e|e
  ·subst e; grind
  ·exact Rat.lt_of_le_of_ne z e
theorem hic_half {pa fa va pb fb vb now t:Rat} (lt:now<=t) (h1:pa < fa) (h2:pb < fb) (k1:pa+va * t < fb+vb * t) (k2:pb+vb * t < fa+va * t) (c:fb+vb * now<=pa+va * now) :
  ∃ s,now<=s/\s < t/\¬ vb<=va/\s=(pa - fb) / (vb - va)/\∀ r,s < r->r<=t->pa+va * r < fb+vb * r/\pb+vb * r < fa+va * r:=by
 have v0:¬ vb<=va:=fun z=>by
  have:=Rat.mul_nonneg (show 0<=va - vb by grind) (show 0<=t - now by grind)
  grind
 have v1:0 < vb - va:=by grind
 have e:(vb - va) * ((pa - fb) / (vb - va))=pa - fb:=by
  have:vb - va≠0:=by grind
  grind
 generalize hs:(pa - fb) / (vb - va)=s at e
 refine ⟨s,jG v1 (by grind),lt_of_mul_q v1 (by grind),v0,rfl,fun r hr ht=>⟨?_,?_⟩⟩
 ·have:=Z3 v1 (show 0 < r - s by grind)
  grind
 ·have:=j8 v1 (show 0<=t - r by grind)
  grind
theorem hic_full {pa fa va pb fb vb now t:Rat} (k1:pa+va * t < fb+vb * t) (k2:pb+vb * t < fa+va * t) (c1:pa+va * now < fb+vb * now) (c2:pb+vb * now < fa+va * now) (r:Rat) (h1:now<=r) (h2:r<=t) :
  pa+va * r < fb+vb * r/\pb+vb * r < fa+va * r:=by
 rcases (Rat.le_total (a:=va) (b:=vb)) with z|z
 ·have e1:=Rat.mul_nonneg (show 0<=vb - va by grind) (show 0<=t - r by grind)
  have e2:=Rat.mul_nonneg (show 0<=vb - va by grind) (show 0<=r - now by grind)
  constructor<;>grind
 ·have e1:=Rat.mul_nonneg (show 0<=va - vb by grind) (show 0<=t - r by grind)
  have e2:=Rat.mul_nonneg (show 0<=va - vb by grind) (show 0<=r - now by grind)
  constructor<;>grind
theorem jo {a b:Bq} {d:Nat} {t:Rat}:hicB (atB t a) (atB t b) d=true↔a.pl d+a.sp d * t < b.far d+b.sp d * t/\b.pl d+b.sp d * t < a.far d+a.sp d * t:=by
 unfold hicB
 rw [Bool.and_eq_true,decide_eq_true_eq,decide_eq_true_eq,YA,YA,ZM,ZM]
theorem way_hic {a b:Bq} {d:Nat} {now t:Rat} (lt:now<=t) (wa:0 < a.sz d) (wb:0 < b.sz d) (h:hicB (atB t a) (atB t b) d=true) :
  (∀ r,now<=r->r<=t->hicB (atB r a) (atB r b) d=true)\/
  ∃ s,now<=s/\s < t/\((¬ a.sp d<=b.sp d/\s=(b.pl d - a.far d) / (a.sp d - b.sp d))\/(¬ b.sp d<=a.sp d/\s=(a.pl d - b.far d) / (b.sp d - a.sp d)))/\∀ r,s < r->r<=t->hicB (atB r a) (atB r b) d=true:=by
 obtain ⟨k1,k2⟩:=jo.mp h
 have fa:a.pl d < a.far d:=by unfold Bq.far; grind
 have fb:b.pl d < b.far d:=by unfold Bq.far; grind
 by_cases c1:a.pl d+a.sp d * now < b.far d+b.sp d * now
 ·by_cases c2:b.pl d+b.sp d * now < a.far d+a.sp d * now
  ·exact .inl fun r h1 h2=>jo.mpr (hic_full k1 k2 c1 c2 r h1 h2)
  ·obtain ⟨s,z1,z2,z3,z4,z5⟩:=hic_half lt fb fa k2 k1 (Rat.not_lt.mp c2)
   exact .inr ⟨s,z1,z2,.inl ⟨z3,z4⟩,fun r h1 h2=>jo.mpr (And.symm (z5 r h1 h2))⟩
 ·obtain ⟨s,z1,z2,z3,z4,z5⟩:=hic_half lt fa fb k1 k2 (Rat.not_lt.mp c1)
  exact .inr ⟨s,z1,z2,.inr ⟨z3,z4⟩,fun r h1 h2=>jo.mpr (z5 r h1 h2)⟩
def GdT (R:Rat × Rat) (gs:List Bq) (t:Rat):Prop:=(∀ b∈gs,InR R (atB t b))/\App (gs.map (atB t))
section
variable {R:Rat × Rat} {gs:List Bq} {now t:Rat}
theorem JA {i:Nat} (h:i < gs.length):bxAt (gs.map (atB t)) i=atB t (bxAt gs i):=by
 rw [Zx (b:=atB t gs[i]) (by simp [h]),Zx (gs:=gs) (b:=gs[i]) (List.getElem?_eq_getElem h)]
theorem yf {d i:Nat}:boxB R gs d (i:Int)=bxAt gs i:=by
 unfold boxB
 rw [if_pos (Int.natCast_nonneg i)]
 rfl
theorem jnt_two {d i j:Nat}:jntP R gs (d,(i:Int),(j:Int))=if (bxAt gs i).sp d<=(bxAt gs j).sp d then none else some (((bxAt gs j).pl d - (bxAt gs i).far d) / ((bxAt gs i).sp d - (bxAt gs j).sp d)):=by
 unfold jntP
 show (if (boxB R gs d (i:Int)).sp d<=(boxB R gs d (j:Int)).sp d then none else _)=_
 rw [yf,yf]
theorem in_two {d i j:Nat} (hd:d<=1) (hi:i < gs.length) (hj:j < gs.length) (ne:i≠j):InP gs.length (d,(i:Int),(j:Int)):=⟨hd,.inr ⟨i,hi,rfl⟩,.inr ⟨j,hj,rfl⟩,fun z=>ne (by have:(i:Int)=(j:Int):=z; omega),.inl (Int.natCast_nonneg i)⟩
theorem met_two {d i j:Nat} {s:Rat}:metP R gs s (d,(i:Int),(j:Int))=hicB (atB s (bxAt gs i)) (atB s (bxAt gs j)) (1 - d):=by
 unfold metP
 show hicB (atB s (boxB R gs d (i:Int))) (atB s (boxB R gs d (j:Int))) (1 - d)=_
 rw [yf,yf]
theorem Y1 {d i j:Nat} {s:Rat} (hd:d<=1) (hi:i < gs.length) (hj:j < gs.length) (ne:i≠j) (h:(¬ (bxAt gs i).sp d<=(bxAt gs j).sp d/\s=((bxAt gs j).pl d - (bxAt gs i).far d) / ((bxAt gs i).sp d - (bxAt gs j).sp d))\/(¬ (bxAt gs j).sp d<=(bxAt gs i).sp d/\s=((bxAt gs i).pl d - (bxAt gs j).far d) / ((bxAt gs j).sp d - (bxAt gs i).sp d))) :
  ∃ x y:Nat,(x=i/\y=j\/x=j/\y=i)/\jntP R gs (d,(x:Int),(y:Int))=some s:=by
 rcases h with ⟨h1,h2⟩|⟨h1,h2⟩
 ·exact ⟨i,j,.inl ⟨rfl,rfl⟩,by rw [jnt_two,if_neg h1,h2]⟩
 ·exact ⟨j,i,.inr ⟨rfl,rfl⟩,by rw [jnt_two,if_neg h1,h2]⟩
theorem stay_two {i j:Nat} (hi:i < gs.length) (hj:j < gs.length) (ne:i≠j) (sz:∀ d,0 < (bxAt gs i).sz d/\0 < (bxAt gs j).sz d) (lt:now<=t) (hT:∀ T,comP R gs now=some T->t<=T)
  (a:(hicB (atB now (bxAt gs i)) (atB now (bxAt gs j)) 0 && hicB (atB now (bxAt gs i)) (atB now (bxAt gs j)) 1)=false):(hicB (atB t (bxAt gs i)) (atB t (bxAt gs j)) 0 && hicB (atB t (bxAt gs i)) (atB t (bxAt gs j)) 1)=false:=by
 rw [Bool.eq_false_iff]
 intro z
 rw [Bool.and_eq_true] at z
 have no:∀ (d x y:Nat) (s:Rat),d<=1->(x=i/\y=j\/x=j/\y=i)->jntP R gs (d,(x:Int),(y:Int))=some s->now<=s->s < t->(metP R gs s (d,(x:Int),(y:Int)) || corP R gs (d,(x:Int),(y:Int)))=true->False:=fun d x y s hd xy e h1 h2 m=>by
  have ip:InP gs.length (d,(x:Int),(y:Int)):=by
   rcases xy with ⟨rfl,rfl⟩|⟨rfl,rfl⟩
   ·exact in_two hd hi hj ne
   ·exact in_two hd hj hi (Ne.symm ne)
  obtain ⟨T,e1,e2⟩:=Jt ip e h1 m
  have:=hT T e1
  grind
 have mt:∀ (d x y:Nat) (s:Rat),(x=i/\y=j\/x=j/\y=i)->hicB (atB s (bxAt gs i)) (atB s (bxAt gs j)) (1 - d)=true->metP R gs s (d,(x:Int),(y:Int))=true:=fun d x y s xy h=>by
  rw [met_two]
  rcases xy with ⟨rfl,rfl⟩|⟨rfl,rfl⟩
  ·exact h
  ·rw [hicB_comm]; exact h
 rcases way_hic lt (sz 0).1 (sz 0).2 z.1 with w0|⟨s0,n0,t0,c0,w0⟩
 ·rcases way_hic lt (sz 1).1 (sz 1).2 z.2 with w1|⟨s1,n1,t1,c1,w1⟩
  ·rw [w0 now Rat.le_refl lt,w1 now Rat.le_refl lt] at a
   cases a
  ·obtain ⟨x,y,xy,e⟩:=Y1 (R:=R) (d:=1) (by decide) hi hj ne c1
   exact no 1 x y s1 (by decide) xy e n1 t1 (by rw [mt 1 x y s1 xy (w0 s1 n1 (Rat.le_of_lt t1))]; rfl)
 ·obtain ⟨x,y,xy,e⟩:=Y1 (R:=R) (d:=0) (by decide) hi hj ne c0
  rcases way_hic lt (sz 1).1 (sz 1).2 z.2 with w1|⟨s1,n1,t1,c1,w1⟩
  ·exact no 0 x y s0 (by decide) xy e n0 t0 (by rw [mt 0 x y s0 xy (w1 s0 n0 (Rat.le_of_lt t0))]; rfl)
  ·obtain ⟨x',y',xy',e'⟩:=Y1 (R:=R) (d:=1) (by decide) hi hj ne c1
   by_cases c:s0 < s1
   ·exact no 1 x' y' s1 (by decide) xy' e' n1 t1 (by rw [mt 1 x' y' s1 xy' (w0 s1 c (Rat.le_of_lt t1))]; rfl)
   ·by_cases c':s1 < s0
    ·exact no 0 x y s0 (by decide) xy e n0 t0 (by rw [mt 0 x y s0 xy (w1 s0 c' (Rat.le_of_lt t0))]; rfl)
    ·have es:s1=s0:=by grind
     subst es
     refine no 0 x y s1 (by decide) xy e n0 t0 ?_
     have co:corP R gs (0,(x:Int),(y:Int))=true:=by
      unfold corP
      rw [decide_eq_true (Int.natCast_nonneg x),decide_eq_true (Int.natCast_nonneg y),Bool.true_and,Bool.true_and,Bool.or_eq_true,decide_eq_true_eq,decide_eq_true_eq]
      show jntP R gs (0,(x:Int),(y:Int))=jntP R gs (1,(x:Int),(y:Int))\/jntP R gs (0,(x:Int),(y:Int))=jntP R gs (1,(y:Int),(x:Int))
      rw [e]
      rcases xy with ⟨rfl,rfl⟩|⟨rfl,rfl⟩<;>rcases xy' with ⟨rfl,rfl⟩|⟨rfl,rfl⟩
      ·exact .inl e'.symm
      ·exact .inr e'.symm
      ·exact .inr e'.symm
      ·exact .inl e'.symm
     rw [co,Bool.or_true]
end
theorem sum_set:∀ (l:List Rat) {i:Nat} {x y:Rat},l[i]?=some y->sumQ (l.set i x)=sumQ l - y+x
 |[],_,_,_,h=>by simp at h
 |a::l,0,x,y,h=>by
  simp at h
  subst h
  rw [List.set_cons_zero,Z2,Z2]
  grind
 |a::l,i+1,x,y,h=>by
  rw [List.set_cons_succ,Z2,Z2,sum_set l (by simpa using h)]
  grind
theorem cut_takeM {xs:List V} {k:Nat} (h:k<=xs.length):cutV xs none (some (k:Int))=xs.take k:=by
 unfold cutV
 rw [HT.sIx_none,HT.sIx_nat,Nat.min_eq_left h]
 rfl
theorem Yg {p f v L now t:Rat} (lt:now<=t) (n1:0<=p+v * now) (n2:f+v * now<=L) :
  (∀ r,now<=r->r<=t->0<=p+v * r/\f+v * r<=L)\/∃ s,now<=s/\s < t/\((¬ 0<=v/\s=(p - 0) / (0 - v))\/(¬ v<=0/\s=(L - f) / (v - 0)))/\∀ r,now<=r->r<=s->0<=p+v * r/\f+v * r<=L:=by
 by_cases v0:0<=v
 ·by_cases v1:v<=0
  ·have e:v=0:=by grind
   subst e
   exact .inl fun r _ _=>⟨by grind,by grind⟩
  ·have vp:0 < v - 0:=by grind
   have e:(v - 0) * ((L - f) / (v - 0))=L - f:=by
    have:v - 0≠0:=by grind
    grind
   generalize hs:(L - f) / (v - 0)=s at e
   have k:∀ r,now<=r->r<=s->0<=p+v * r/\f+v * r<=L:=fun r h1 h2=>by
    have e1:=j8 vp (show 0<=r - now by grind)
    have e2:=j8 vp (show 0<=s - r by grind)
    exact ⟨by grind,by grind⟩
   by_cases c:s < t
   ·exact .inr ⟨s,jG vp (by grind),c,.inr ⟨v1,rfl⟩,k⟩
   ·exact .inl fun r h1 h2=>k r h1 (by grind)
 ·have vp:0 < 0 - v:=by grind
  have e:(0 - v) * ((p - 0) / (0 - v))=p - 0:=by
   have:0 - v≠0:=by grind
   grind
  generalize hs:(p - 0) / (0 - v)=s at e
  have k:∀ r,now<=r->r<=s->0<=p+v * r/\f+v * r<=L:=fun r h1 h2=>by
   have e1:=j8 vp (show 0<=r - now by grind)
   have e2:=j8 vp (show 0<=s - r by grind)
   exact ⟨by grind,by grind⟩
  by_cases c:s < t
  ·exact .inr ⟨s,jG vp (by grind),c,.inl ⟨v0,rfl⟩,k⟩
  ·exact .inl fun r h1 h2=>k r h1 (by grind)
def rmD (R:Rat × Rat) (d:Nat):Rat:=if d=0 then R.1 else R.2
section
variable {R:Rat × Rat} {gs:List Bq} {now t:Rat}
theorem j5 {d:Nat} (hd:d<=1):(boxB R gs d (-1)).far d=0/\(boxB R gs d (-1)).sp d=0/\(boxB R gs d (-1)).pl (1 - d)=0/\(boxB R gs d (-1)).far (1 - d)=rmD R (1 - d)/\(boxB R gs d (-1)).sp (1 - d)=0:=by
 rcases d01 hd with rfl|rfl
 ·refine ⟨?_,rfl,rfl,?_,rfl⟩
  ·show (-1:Rat)+1=0
   grind
  ·show (0:Rat)+R.2=R.2
   grind
 ·refine ⟨?_,rfl,rfl,?_,rfl⟩
  ·show (-1:Rat)+1=0
   grind
  ·show (0:Rat)+R.1=R.1
   grind
theorem Zf {d:Nat} (hd:d<=1):(boxB R gs d (-2)).pl d=rmD R d/\(boxB R gs d (-2)).sp d=0/\(boxB R gs d (-2)).pl (1 - d)=0/\(boxB R gs d (-2)).far (1 - d)=rmD R (1 - d)/\(boxB R gs d (-2)).sp (1 - d)=0:=by
 rcases d01 hd with rfl|rfl
 ·refine ⟨rfl,rfl,rfl,?_,rfl⟩
  show (0:Rat)+R.2=R.2
  grind
 ·refine ⟨rfl,rfl,rfl,?_,rfl⟩
  show (0:Rat)+R.1=R.1
  grind
theorem JZ {b:Bq}:InR R (atB t b)↔(0 < b.w/\0 < b.h)/\∀ d,d<=1->0<=b.pl d+b.sp d * t/\b.far d+b.sp d * t<=rmD R d:=by
 have e0:=ZM b t 0
 have e1:=ZM b t 1
 have p0:=YA b t 0
 have p1:=YA b t 1
 constructor
 ·rintro ⟨h1,h2,h3,h4,h5,h6⟩
  refine ⟨⟨h1,h2⟩,fun d hd=>?_⟩
  rcases d01 hd with rfl|rfl
  ·exact ⟨by rw [<- p0]; exact h3,by rw [<- e0]; exact h5⟩
  ·exact ⟨by rw [<- p1]; exact h4,by rw [<- e1]; exact h6⟩
 ·rintro ⟨⟨h1,h2⟩,h⟩
  have a:=h 0 (by decide)
  have b':=h 1 (by decide)
  rw [<- p0,<- e0] at a
  rw [<- p1,<- e1] at b'
  exact ⟨h1,h2,a.1,b'.1,a.2,b'.2⟩
theorem sz_pos {b:Bq} (h:0 < b.w/\0 < b.h) (d:Nat):0 < b.sz d:=by
 unfold Bq.sz
 split
 ·exact h.1
 ·exact h.2
theorem stay_in {i:Nat} (hi:i < gs.length) (r0:∀ d,0 < rmD R d) (lt:now<=t) (hT:∀ T,comP R gs now=some T->t<=T) (h:InR R (atB now (bxAt gs i))):InR R (atB t (bxAt gs i)):=by
 obtain ⟨hs,hw⟩:=JZ.mp h
 have sp:=sz_pos hs
 have no:∀ (d:Nat) (s:Rat),d<=1->now<=s->s < t->((¬ 0<=(bxAt gs i).sp d/\s=((bxAt gs i).pl d - 0) / (0 - (bxAt gs i).sp d))\/(¬ (bxAt gs i).sp d<=0/\s=(rmD R d - (bxAt gs i).far d) / ((bxAt gs i).sp d - 0)))->(0<=(bxAt gs i).pl (1 - d)+(bxAt gs i).sp (1 - d) * s/\(bxAt gs i).far (1 - d)+(bxAt gs i).sp (1 - d) * s<=rmD R (1 - d))->False:=fun d s hd n s' c w=>by
  have fr:(bxAt gs i).far (1 - d)=(bxAt gs i).pl (1 - d)+(bxAt gs i).sz (1 - d):=rfl
  have sz:=sp (1 - d)
  have l1:(bxAt gs i).pl (1 - d)+(bxAt gs i).sp (1 - d) * s < rmD R (1 - d):=by grind
  have l2:0 < (bxAt gs i).far (1 - d)+(bxAt gs i).sp (1 - d) * s:=by grind
  rcases c with ⟨c1,c2⟩|⟨c1,c2⟩
  ·obtain ⟨w1,w2,w3,w4,w5⟩:=j5 (R:=R) (gs:=gs) hd
   have ip:InP gs.length (d,-1,(i:Int)):=⟨hd,.inl rfl,.inr ⟨i,hi,rfl⟩,(by show (-1:Int)≠(i:Int); omega),.inr (Int.natCast_nonneg i)⟩
   have j:jntP R gs (d,-1,(i:Int))=some s:=by
    unfold jntP
    show (if (boxB R gs d (-1)).sp d<=(boxB R gs d (i:Int)).sp d then none else some (((boxB R gs d (i:Int)).pl d - (boxB R gs d (-1)).far d) / ((boxB R gs d (-1)).sp d - (boxB R gs d (i:Int)).sp d)))=_
    rw [yf,w1,w2,if_neg c1,c2]
   have m:metP R gs s (d,-1,(i:Int))=true:=by
    unfold metP
    show hicB (atB s (boxB R gs d (-1))) (atB s (boxB R gs d (i:Int))) (1 - d)=true
    rw [yf,jo,w3,w4,w5]
    exact ⟨by grind,by grind⟩
   obtain ⟨T,e1,e2⟩:=Jt ip j n (by rw [m]; rfl)
   have:=hT T e1
   grind
  ·obtain ⟨w1,w2,w3,w4,w5⟩:=Zf (R:=R) (gs:=gs) hd
   have ip:InP gs.length (d,(i:Int),-2):=⟨hd,.inr ⟨i,hi,rfl⟩,.inl rfl,(by show (i:Int)≠-2; omega),.inl (Int.natCast_nonneg i)⟩
   have j:jntP R gs (d,(i:Int),-2)=some s:=by
    unfold jntP
    show (if (boxB R gs d (i:Int)).sp d<=(boxB R gs d (-2)).sp d then none else some (((boxB R gs d (-2)).pl d - (boxB R gs d (i:Int)).far d) / ((boxB R gs d (i:Int)).sp d - (boxB R gs d (-2)).sp d)))=_
    rw [yf,w1,w2,if_neg c1,c2]
   have m:metP R gs s (d,(i:Int),-2)=true:=by
    unfold metP
    show hicB (atB s (boxB R gs d (i:Int))) (atB s (boxB R gs d (-2))) (1 - d)=true
    rw [yf,jo,w3,w4,w5]
    exact ⟨by grind,by grind⟩
   obtain ⟨T,e1,e2⟩:=Jt ip j n (by rw [m]; rfl)
   have:=hT T e1
   grind
 have a0:=hw 0 (by decide)
 have a1:=hw 1 (by decide)
 rcases Yg lt a0.1 a0.2 with w0|⟨s0,n0,t0,c0,w0⟩
 ·rcases Yg lt a1.1 a1.2 with w1|⟨s1,n1,t1,c1,w1⟩
  ·refine JZ.mpr ⟨hs,fun d hd=>?_⟩
   rcases d01 hd with rfl|rfl
   ·exact w0 t lt Rat.le_refl
   ·exact w1 t lt Rat.le_refl
  ·exact (no 1 s1 (by decide) n1 t1 c1 (w0 s1 n1 (Rat.le_of_lt t1))).elim
 ·rcases Yg lt a1.1 a1.2 with w1|⟨s1,n1,t1,c1,w1⟩
  ·exact (no 0 s0 (by decide) n0 t0 c0 (w1 s0 n0 (Rat.le_of_lt t0))).elim
  ·rcases (Rat.le_total (a:=s0) (b:=s1)) with z|z
   ·exact (no 0 s0 (by decide) n0 t0 c0 (w1 s0 n0 z)).elim
   ·exact (no 1 s1 (by decide) n1 t1 c1 (w0 s1 n1 z)).elim
theorem rm_pos (r1:0 < R.1) (r2:0 < R.2) (d:Nat):0 < rmD R d:=by
 unfold rmD
 split
 ·exact r1
 ·exact r2
theorem bx_mem {i:Nat} (h:i < gs.length):bxAt gs i∈gs:=by
 rw [Zx (List.getElem?_eq_getElem h)]
 exact List.getElem_mem h
theorem gd_stay (r1:0 < R.1) (r2:0 < R.2) (g:GdT R gs now) (lt:now<=t) (hT:∀ T,comP R gs now=some T->t<=T):GdT R gs t:=by
 refine ⟨fun b hb=>?_,fun i j ij jl=>?_⟩
 ·obtain ⟨i,hi,rfl⟩:=List.getElem_of_mem hb
  have e:bxAt gs i=gs[i]:=Zx (List.getElem?_eq_getElem hi)
  rw [<- e]
  exact stay_in hi (rm_pos r1 r2) lt hT (g.1 _ (bx_mem hi))
 ·rw [List.length_map] at jl
  have a:=g.2 i j ij (by rw [List.length_map]; exact jl)
  rw [JA (by omega),JA jl] at a ⊢
  have si:=(JZ.mp (g.1 _ (bx_mem (gs:=gs) (i:=i) (by omega)))).1
  have sj:=(JZ.mp (g.1 _ (bx_mem jl))).1
  exact stay_two (by omega) jl (by omega) (fun d=>⟨sz_pos si d,sz_pos sj d⟩) lt hT a
end
def PosE (T:Rat) (b b':Bq):Prop:=(∀ d,d<=1->b'.pl d+b'.sp d * T=b.pl d+b.sp d * T/\b'.sz d=b.sz d)/\b'.m=b.m
theorem PosE.refl (T:Rat) (b:Bq):PosE T b b:=⟨fun _ _=>⟨rfl,rfl⟩,rfl⟩
theorem PosE.trans {T:Rat} {a b c:Bq} (h:PosE T a b) (g:PosE T b c):PosE T a c:=⟨fun d hd=>⟨(g.1 d hd).1.trans (h.1 d hd).1,(g.1 d hd).2.trans (h.1 d hd).2⟩,g.2.trans h.2⟩
theorem mix_meet {x y T c:Rat} {v w:Rat} {m u:Int} (m1:1<=m) (u1:1<=u) (h1:x+v * T=c) (h2:y+w * T=c):mixQ x y m u+mixQ v w m u * T=c:=by
 have k:(((m+u:Int)):Rat)≠0:=by
  intro z
  have:m+u=0:=Rat.intCast_inj.mp z
  omega
 rw [Rat.intCast_add] at k
 rw [Ys,Ys]
 have e:∀ p q:Rat,p * (((m:Rat) - u) / (m+u))+q * ((2 * u) / (m+u))=(p * ((m:Rat) - u)+q * (2 * u)) / (m+u):=fun p q=>by grind
 rw [e,e]
 have e2:x * ((m:Rat) - u)+y * (2 * u)+(v * ((m:Rat) - u)+w * (2 * u)) * T=c * ((m:Rat)+u):=by grind
 have e3:(x * ((m:Rat) - u)+y * (2 * u)) / ((m:Rat)+u)+(v * ((m:Rat) - u)+w * (2 * u)) / ((m:Rat)+u) * T=(x * ((m:Rat) - u)+y * (2 * u)+(v * ((m:Rat) - u)+w * (2 * u)) * T) / ((m:Rat)+u):=by grind
 rw [e3,e2]
 grind
theorem ptd_keep {a b:Rat × Rat × Option Int} {T:Rat} (wa:1<=a.2.2.getD 1) (wb:∀ u,b.2.2=some u->1<=u) (w0:b.2.2=none->b.2.1=0) (e:a.1+a.2.1 * T=b.1+b.2.1 * T):(ptd a b).1+(ptd a b).2 * T=a.1+a.2.1 * T:=by
 obtain ⟨b1,b2,b3⟩:=b
 cases b3 with
 |none=>
  have z:b2=0:=w0 rfl
  subst z
  show b1+b1 - a.1+-a.2.1 * T=_
  have e':a.1+a.2.1 * T=b1+0 * T:=e
  grind
 |some u=>exact mix_meet wa (wb u rfl) rfl e.symm
section
variable {R:Rat × Rat} {gs gs0:List Bq} {now T:Rat} {q:Pr}
theorem wall_sp {d:Nat} {i:Int} (i0:¬ 0<=i) (e:Nat):(boxB R gs d i).sp e=0:=by
 unfold boxB
 rw [if_neg i0]
 unfold jT
 split<;>split<;>(unfold Bq.sp; split<;>rfl)
theorem box_w1 (hw:WtB gs) (h:InP gs.length q) {i:Int} (hi:i=q.2.1\/i=q.2.2) (d:Nat):1<=(boxB R gs d i).m.getD 1/\(∀ u,(boxB R gs d i).m=some u->1<=u)/\((boxB R gs d i).m=none->∀ e,(boxB R gs d i).sp e=0):=by
 by_cases i0:0<=i
 ·have l:i.toNat < gs.length:=by
   rcases hi with rfl|rfl
   ·exact h.l1 i0
   ·exact h.l2 i0
  obtain ⟨m,e,m1,_⟩:=jz (R:=R) (d:=d) hw i0 l
  rw [e]
  exact ⟨m1,fun u z=>by cases z; exact m1,fun z=>(nomatch z)⟩
 ·rw [YQ i0]
  exact ⟨by decide,fun u z=>(nomatch z),fun _ e=>wall_sp i0 e⟩
def TchT (R:Rat × Rat) (gs:List Bq) (q:Pr) (T:Rat):Prop:=(boxB R gs q.1 q.2.1).far q.1+(boxB R gs q.1 q.2.1).sp q.1 * T=(boxB R gs q.1 q.2.2).pl q.1+(boxB R gs q.1 q.2.2).sp q.1 * T
theorem jnt_tch (h:jntP R gs q=some T):TchT R gs q T:=by
 unfold jntP at h
 split at h
 ·cases h
 ·rename_i c
  injection h with h
  unfold TchT
  generalize (boxB R gs q.1 q.2.1).far q.1=f at h ⊢
  generalize (boxB R gs q.1 q.2.2).pl q.1=p at h ⊢
  generalize (boxB R gs q.1 q.2.1).sp q.1=v at h c ⊢
  generalize (boxB R gs q.1 q.2.2).sp q.1=w at h c ⊢
  have:v - w≠0:=by grind
  grind
theorem pos_with {b:Bq} {d:Nat} {p s:Rat} (hd:d<=1) (h:p+s * T=b.pl d+b.sp d * T):PosE T b (b.with d p s):=by
 refine ⟨fun e he=>?_,with_m⟩
 rw [ZF hd he,jg hd he,Ji]
 refine ⟨?_,rfl⟩
 by_cases c:e=d
 ·subst c
  rw [if_pos rfl,if_pos rfl,h]
 ·rw [if_neg c,if_neg c]
theorem prt_keep (h:InP gs.length q) (hw:WtB gs) (t:TchT R gs q T) (i:Nat):PosE T (bxAt gs i) (bxAt (prtP R gs q) i):=by
 have z:=Je (R:=R) h q.1 (i:Int)
 rw [yf,yf] at z
 rw [z]
 obtain ⟨a1,a2,a3⟩:=box_w1 (R:=R) (i:=q.2.1) hw h (.inl rfl) q.1
 obtain ⟨b1,b2,b3⟩:=box_w1 (R:=R) (i:=q.2.2) hw h (.inr rfl) q.1
 unfold TchT at t
 split
 ·rename_i c
  have e:bxAt gs i=boxB R gs q.1 q.2.1:=by rw [<- c.2,yf]
  rw [e]
  unfold oneP JN
  refine pos_with h.1 ?_
  have k:=ptd_keep (a:=farG (boxB R gs q.1 q.2.1) q.1) (b:=yA (boxB R gs q.1 q.2.2) q.1) (T:=T) a1 b2 (fun z=>b3 z q.1) t
  have f:(farG (boxB R gs q.1 q.2.1) q.1).1=(boxB R gs q.1 q.2.1).pl q.1+(boxB R gs q.1 q.2.1).sz q.1:=rfl
  have f2:(farG (boxB R gs q.1 q.2.1) q.1).2.1=(boxB R gs q.1 q.2.1).sp q.1:=rfl
  rw [f,f2] at k
  grind
 ·split
  ·rename_i c
   have e:bxAt gs i=boxB R gs q.1 q.2.2:=by rw [<- c.2,yf]
   rw [e]
   unfold othP JF
   refine pos_with h.1 ?_
   exact ptd_keep (a:=yA (boxB R gs q.1 q.2.2) q.1) (b:=farG (boxB R gs q.1 q.2.1) q.1) (T:=T) b1 a2 (fun z=>a3 z q.1) t.symm
  ·exact PosE.refl T _
def PosL (T:Rat) (gs gs':List Bq):Prop:=gs'.length=gs.length/\∀ i,PosE T (bxAt gs i) (bxAt gs' i)
theorem PosE.far {b b':Bq} (h:PosE T b b') {d:Nat} (hd:d<=1):b'.far d+b'.sp d * T=b.far d+b.sp d * T:=by
 have:=h.1 d hd
 unfold Bq.far
 grind
theorem tch_pos (h:PosL T gs0 gs) (hd:q.1<=1) (t:TchT R gs0 q T):TchT R gs q T:=by
 unfold TchT at t ⊢
 have k:∀ i:Int,PosE T (boxB R gs0 q.1 i) (boxB R gs q.1 i):=fun i=>by
  unfold boxB
  split
  ·exact h.2 _
  ·exact PosE.refl _ _
 rw [(k _).far hd,((k _).1 _ hd).1,t]
theorem fold_keep:∀ (l:List Pr) {gs:List Bq},(∀ q∈l,InP gs.length q/\TchT R gs0 q T)->WtB gs->PosL T gs0 gs->PosL T gs0 (l.foldl (prtP R) gs)
 |[],_,_,_,h=>h
 |q::l,gs,hl,hw,h=>by
  obtain ⟨hq,tq⟩:=hl q (List.mem_cons_self ..)
  rw [List.foldl_cons]
  refine fold_keep l (fun r hr=>?_) (prt_wt hw hq) ⟨by rw [yz]; exact h.1,fun i=>(h.2 i).trans (prt_keep hq hw (tch_pos h hq.1 tq) i)⟩
  have:=hl r (List.mem_cons_of_mem _ hr)
  rw [yz]
  exact this
theorem due_jnt (h:comP R gs now=some T) (hq:q∈dueP R gs now):InP gs.length q/\TchT R gs q T:=by
 refine ⟨ju q hq,jnt_tch ?_⟩
 have z:=(List.mem_filter.mp hq).2
 rw [Bool.and_eq_true] at z
 have y:=z.1
 unfold cmgP at y
 rw [Bool.and_eq_true,h] at y
 exact of_decide_eq_true y.2
theorem on_keep (h:comP R gs now=some T) (hw:WtB gs):PosL T gs (onP R gs now):=fold_keep _ (fun q hq=>due_jnt h hq) hw ⟨rfl,fun i=>PosE.refl T _⟩
theorem PosE.at {b b':Bq} (h:PosE T b b') {d:Nat} (hd:d<=1):(atB T b').pl d=(atB T b).pl d/\(atB T b').far d=(atB T b).far d/\(atB T b').sz d=(atB T b).sz d:=by
 rw [YA,YA,ZM,ZM,h.far hd,(h.1 d hd).1,at_sz,at_sz]
 exact ⟨rfl,rfl,(h.1 d hd).2⟩
theorem gd_pos {gs':List Bq} (h:PosL T gs gs') (g:GdT R gs T):GdT R gs' T:=by
 refine ⟨fun b hb=>?_,fun i j ij jl=>?_⟩
 ·obtain ⟨i,hi,rfl⟩:=List.getElem_of_mem hb
  have e:bxAt gs' i=gs'[i]:=Zx (List.getElem?_eq_getElem hi)
  rw [<- e]
  have il:i < gs.length:=by rw [<- h.1]; exact hi
  obtain ⟨h1,h2,h3,h4,h5,h6⟩:=g.1 _ (bx_mem il)
  have a0:=(h.2 i).at (d:=0) (by decide)
  have a1:=(h.2 i).at (d:=1) (by decide)
  refine ⟨?_,?_,?_,?_,?_,?_⟩
  ·show 0 < (atB T (bxAt gs' i)).sz 0; rw [a0.2.2]; exact h1
  ·show 0 < (atB T (bxAt gs' i)).sz 1; rw [a1.2.2]; exact h2
  ·show 0<=(atB T (bxAt gs' i)).pl 0; rw [a0.1]; exact h3
  ·show 0<=(atB T (bxAt gs' i)).pl 1; rw [a1.1]; exact h4
  ·rw [a0.2.1]; exact h5
  ·rw [a1.2.1]; exact h6
 ·rw [List.length_map,h.1] at jl
  have a:=g.2 i j ij (by rw [List.length_map]; exact jl)
  rw [JA (by omega),JA jl] at a
  rw [JA (by rw [h.1]; omega),JA (by rw [h.1]; exact jl)]
  have k:∀ d,d<=1->hicB (atB T (bxAt gs' i)) (atB T (bxAt gs' j)) d=hicB (atB T (bxAt gs i)) (atB T (bxAt gs j)) d:=fun d hd=>by
   unfold hicB
   rw [((h.2 i).at hd).1,((h.2 i).at hd).2.1,((h.2 j).at hd).1,((h.2 j).at hd).2.1]
  rw [k 0 (by decide),k 1 (by decide)]
  exact a
end
def mgB (b:Bq):Rat:=((b.m.getD 1:Int):Rat) * (b.u * b.u+b.v * b.v)
def mgt (gs:List Bq):Rat:=sumQ (gs.map mgB)
theorem mg_sp (b:Bq) {d:Nat} (hd:d<=1):mgB b=((b.m.getD 1:Int):Rat) * (b.sp d * b.sp d+b.sp (1 - d) * b.sp (1 - d)):=by
 rcases d01 hd with rfl|rfl
 ·rfl
 ·show _=((b.m.getD 1:Int):Rat) * (b.v * b.v+b.u * b.u)
  unfold mgB
  grind
theorem mg_with {b:Bq} {d:Nat} {p s:Rat} (hd:d<=1):mgB (b.with d p s)=((b.m.getD 1:Int):Rat) * (s * s+b.sp (1 - d) * b.sp (1 - d)):=by
 rw [mg_sp _ hd,with_m,jg hd hd,jg hd (show 1 - d<=1 by omega),if_pos rfl,if_neg (by omega)]
theorem mix_mt (v w:Rat) {m u:Int} (m1:1<=m) (u1:1<=u):(m:Rat) * (mixQ v w m u * mixQ v w m u)+(u:Rat) * (mixQ w v u m * mixQ w v u m)=(m:Rat) * (v * v)+(u:Rat) * (w * w):=by
 have k:(((m+u:Int)):Rat)≠0:=by
  intro z
  have:m+u=0:=Rat.intCast_inj.mp z
  omega
 rw [Rat.intCast_add] at k
 rw [Ys,Ys]
 generalize (m:Rat)=a at k ⊢
 generalize (u:Rat)=b at k ⊢
 have k':b+a=a+b:=by grind
 rw [k']
 grind
section
variable {R:Rat × Rat} {gs:List Bq} {now T:Rat} {q:Pr}
theorem mg_set {l:List Bq} {k:Nat} {b:Bq} (h:k < l.length):mgt (l.set k b)=mgt l - mgB (bxAt l k)+mgB b:=by
 unfold mgt
 rw [List.map_set]
 refine sum_set _ ?_
 rw [List.getElem?_map,List.getElem?_eq_getElem h,Zx (List.getElem?_eq_getElem h)]
 rfl
theorem one_mg (hd:q.1<=1):mgB (oneP R gs q)=(((boxB R gs q.1 q.2.1).m.getD 1:Int):Rat) * ((ptd (farG (boxB R gs q.1 q.2.1) q.1) (yA (boxB R gs q.1 q.2.2) q.1)).2 * (ptd (farG (boxB R gs q.1 q.2.1) q.1) (yA (boxB R gs q.1 q.2.2) q.1)).2+(boxB R gs q.1 q.2.1).sp (1 - q.1) * (boxB R gs q.1 q.2.1).sp (1 - q.1)):=mg_with hd
theorem oth_mg (hd:q.1<=1):mgB (othP R gs q)=(((boxB R gs q.1 q.2.2).m.getD 1:Int):Rat) * ((ptd (yA (boxB R gs q.1 q.2.2) q.1) (farG (boxB R gs q.1 q.2.1) q.1)).2 * (ptd (yA (boxB R gs q.1 q.2.2) q.1) (farG (boxB R gs q.1 q.2.1) q.1)).2+(boxB R gs q.1 q.2.2).sp (1 - q.1) * (boxB R gs q.1 q.2.2).sp (1 - q.1)):=mg_with hd
theorem ptd_none {a b:Rat × Rat × Option Int} (h:b.2.2=none):(ptd a b).2=-a.2.1:=by
 obtain ⟨b1,b2,b3⟩:=b
 cases h
 rfl
theorem ptd_some {a b:Rat × Rat × Option Int} {u:Int} (h:b.2.2=some u):(ptd a b).2=mixQ a.2.1 b.2.1 (a.2.2.getD 1) u:=by
 obtain ⟨b1,b2,b3⟩:=b
 cases h
 rfl
theorem box_bx {d:Nat} {i:Int} (i0:0<=i):boxB R gs d i=bxAt gs i.toNat:=by
 unfold boxB
 rw [if_pos i0]
theorem prt_might (h:InP gs.length q) (hw:WtB gs):mgt (prtP R gs q)=mgt gs:=by
 have hd:=h.1
 by_cases c1:0<=q.2.1
 ·have l1:=h.l1 c1
  obtain ⟨m,em,m1,_⟩:=jz (R:=R) (d:=q.1) hw c1 l1
  have e1:=box_bx (R:=R) (gs:=gs) (d:=q.1) c1
  have pA:prtA R gs q=gs.set q.2.1.toNat (oneP R gs q):=by unfold prtA; rw [if_pos c1]; rfl
  have sA:mgt (prtA R gs q)=mgt gs - mgB (boxB R gs q.1 q.2.1)+mgB (oneP R gs q):=by rw [pA,mg_set l1,e1]
  by_cases c2:0<=q.2.2
  ·have l2:=h.l2 c2
   obtain ⟨u,eu,u1,_⟩:=jz (R:=R) (d:=q.1) hw c2 l2
   have e2:=box_bx (R:=R) (gs:=gs) (d:=q.1) c2
   have ne:q.2.2.toNat≠q.2.1.toNat:=by have:=h.2.2.2.1; omega
   have sP:mgt (prtP R gs q)=mgt (prtA R gs q) - mgB (boxB R gs q.1 q.2.2)+mgB (othP R gs q):=by
    have:prtP R gs q=(prtA R gs q).set q.2.2.toNat (othP R gs q):=by unfold prtP; rw [if_pos c2]; rfl
    rw [this,mg_set (by rw [Zm]; exact l2),e2,pA,set_at _ _ _ _ l1,if_neg ne]
   rw [sP,sA,one_mg hd,oth_mg hd,ptd_some (u:=u) (show (yA (boxB R gs q.1 q.2.2) q.1).2.2=some u from eu),ptd_some (u:=m) (show (farG (boxB R gs q.1 q.2.1) q.1).2.2=some m from em),mg_sp (boxB R gs q.1 q.2.1) hd,mg_sp (boxB R gs q.1 q.2.2) hd]
   have k:=mix_mt ((boxB R gs q.1 q.2.1).sp q.1) ((boxB R gs q.1 q.2.2).sp q.1) m1 u1
   have x1:mixQ (farG (boxB R gs q.1 q.2.1) q.1).2.1 (yA (boxB R gs q.1 q.2.2) q.1).2.1 ((farG (boxB R gs q.1 q.2.1) q.1).2.2.getD 1) u=mixQ ((boxB R gs q.1 q.2.1).sp q.1) ((boxB R gs q.1 q.2.2).sp q.1) m u:=by
    show mixQ _ _ ((boxB R gs q.1 q.2.1).m.getD 1) u=_
    rw [em]
    rfl
   have x2:mixQ (yA (boxB R gs q.1 q.2.2) q.1).2.1 (farG (boxB R gs q.1 q.2.1) q.1).2.1 ((yA (boxB R gs q.1 q.2.2) q.1).2.2.getD 1) m=mixQ ((boxB R gs q.1 q.2.2).sp q.1) ((boxB R gs q.1 q.2.1).sp q.1) u m:=by
    show mixQ _ _ ((boxB R gs q.1 q.2.2).m.getD 1) m=_
    rw [eu]
    rfl
   have g1:(boxB R gs q.1 q.2.1).m.getD 1=m:=by rw [em]; rfl
   have g2:(boxB R gs q.1 q.2.2).m.getD 1=u:=by rw [eu]; rfl
   rw [x1,x2,g1,g2]
   generalize mixQ ((boxB R gs q.1 q.2.1).sp q.1) ((boxB R gs q.1 q.2.2).sp q.1) m u=x at k ⊢
   generalize mixQ ((boxB R gs q.1 q.2.2).sp q.1) ((boxB R gs q.1 q.2.1).sp q.1) u m=y at k ⊢
   generalize (boxB R gs q.1 q.2.1).sp q.1=v at k ⊢
   generalize (boxB R gs q.1 q.2.2).sp q.1=w at k ⊢
   generalize (boxB R gs q.1 q.2.1).sp (1 - q.1)=v'
   generalize (boxB R gs q.1 q.2.2).sp (1 - q.1)=w'
   clear x1 x2 g1 g2 em eu
   grind
  ·have sP:prtP R gs q=prtA R gs q:=by unfold prtP; rw [if_neg c2]
   rw [sP,sA,one_mg hd,ptd_none (show (yA (boxB R gs q.1 q.2.2) q.1).2.2=none from YQ c2),mg_sp (boxB R gs q.1 q.2.1) hd]
   show mgt gs - _+(_ * (-(boxB R gs q.1 q.2.1).sp q.1 * -(boxB R gs q.1 q.2.1).sp q.1+_))=mgt gs
   grind
 ·have c2:0<=q.2.2:=by rcases h.2.2.2.2 with z|z<;>first|exact absurd z c1|exact z
  have l2:=h.l2 c2
  have e2:=box_bx (R:=R) (gs:=gs) (d:=q.1) c2
  have pA:prtA R gs q=gs:=by unfold prtA; rw [if_neg c1]
  have sP:mgt (prtP R gs q)=mgt gs - mgB (boxB R gs q.1 q.2.2)+mgB (othP R gs q):=by
   have:prtP R gs q=(prtA R gs q).set q.2.2.toNat (othP R gs q):=by unfold prtP; rw [if_pos c2]; rfl
   rw [this,pA,mg_set l2,e2]
  rw [sP,oth_mg hd,ptd_none (show (farG (boxB R gs q.1 q.2.1) q.1).2.2=none from YQ c1),mg_sp (boxB R gs q.1 q.2.2) hd]
  show mgt gs - _+(_ * (-(boxB R gs q.1 q.2.2).sp q.1 * -(boxB R gs q.1 q.2.2).sp q.1+_))=mgt gs
  grind
theorem Jv:∀ (l:List Pr) {gs:List Bq},(∀ q∈l,InP gs.length q)->WtB gs->mgt (l.foldl (prtP R) gs)=mgt gs
 |[],_,_,_=>rfl
 |q::l,gs,hl,hw=>by
  have hq:=hl q (List.mem_cons_self ..)
  rw [List.foldl_cons,Jv l (fun r hr=>by rw [yz]; exact hl r (List.mem_cons_of_mem _ hr)) (prt_wt hw hq),prt_might hq hw]
end
theorem CmP.up {B B':Nat} {R:Rat × Rat} {gs:List Bq} (h:CmP B R gs) (l:B<=B'):CmP B' R gs:=by
 obtain ⟨D,d1,d2,r1,r2,al⟩:=h
 have p:2 ^ B<=2 ^ B':=Nat.pow_le_pow_right (by decide) l
 refine ⟨D,d1,by omega,r1.mono l,r2.mono l,fun b hb=>?_⟩
 obtain ⟨a1,a2,a3,a4,a5,a6⟩:=al b hb
 exact ⟨a1.mono l,a2.mono l,a3.mono l,a4.mono l,a5.mono l,a6.mono l⟩
structure AllP (R:Rat × Rat) (gs:List Bq) (now:Rat) (B:Nat) (es:List Bq) (last:Rat):Prop where
 gd:GdT R es last
 wt:WtB es
 cm:CmP B R es
 mg:mgt es=mgt gs
 le:now<=last
 ln:es.length=gs.length
 sz:∀ i,(∀ d,d<=1->(bxAt es i).sz d=(bxAt gs i).sz d)/\(bxAt es i).m=(bxAt gs i).m
 fb:last=now\/FB (B+2) last
theorem on_all {R:Rat × Rat} {gs:List Bq} {now t:Rat} {B:Nat} (r1:0 < R.1) (r2:0 < R.2) (l6:gs.length<=6) (hw:WtB gs) (cm:CmP B R gs) (g:GdT R gs now) (h:comP R gs now=some t) (c:crwP R gs now=false):AllP R gs now (B+90) (onP R gs now) t:=by
 have cg:=Jz h
 have two:twoP (dueP R gs now)=false:=by
  unfold crwP at c
  rw [Bool.or_eq_false_iff] at c
  exact c.1
 have six:=due_six l6 two
 have fc:=Yz (dueP R gs now) cm hw ju
 have ps:=on_keep h hw
 refine ⟨gd_pos ps (gd_stay r1 r2 g cg.1 (fun T e=>by rw [h] at e; cases e; exact Rat.le_refl)),fc.2,fc.1.up (by omega),Jv _ ju hw,cg.1,ps.1,fun i=>⟨fun d hd=>((ps.2 i).1 d hd).2,(ps.2 i).2⟩,.inr ?_⟩
 obtain ⟨_,p,_,j,_⟩:=cg
 exact (cm.jnt j).mono (by omega)
theorem run_all {R:Rat × Rat} {gs:List Bq} {now:Rat} {n:Nat} {wd:String} {ms:List (Rat × Pr)} {es:List Bq} {last:Rat} (r:RunP R gs now n wd ms es last) (r1:0 < R.1) (r2:0 < R.2):∀ {B:Nat},gs.length<=6->WtB gs->CmP B R gs->GdT R gs now->AllP R gs now (B+90 * n) es last:=by
 induction r with
 |still h=>exact fun l6 hw cm g=>⟨g,hw,cm.up (by omega),rfl,Rat.le_refl,rfl,fun i=>⟨fun _ _=>rfl,rfl⟩,.inl rfl⟩
 |more h=>exact fun l6 hw cm g=>⟨g,hw,cm.up (by omega),rfl,Rat.le_refl,rfl,fun i=>⟨fun _ _=>rfl,rfl⟩,.inl rfl⟩
 |crowd h c=>exact fun l6 hw cm g=>⟨g,hw,cm.up (by omega),rfl,Rat.le_refl,rfl,fun i=>⟨fun _ _=>rfl,rfl⟩,.inl rfl⟩
 |@step gs now t n wd ms es last h c r ih=>
  intro B l6 hw cm g
  have a:=on_all r1 r2 l6 hw cm g h c
  have z:=ih (B:=B+90) (by rw [a.ln]; exact l6) a.wt a.cm a.gd
  refine ⟨z.gd,z.wt,z.cm.up (by omega),z.mg.trans a.mg,Rat.le_trans a.le z.le,z.ln.trans a.ln,fun i=>⟨fun d hd=>((z.sz i).1 d hd).trans ((a.sz i).1 d hd),(z.sz i).2.trans (a.sz i).2⟩,?_⟩
  rcases z.fb with e|e
  ·rw [e]
   rcases a.fb with y|y
   ·exact .inl y
   ·exact .inr (y.mono (by omega))
  ·exact .inr (e.mono (by omega))
theorem gd_start {R:Rat × Rat} {gs:List Bq} (h:GdP R gs):GdT R gs 0:=⟨fun b hb=>by rw [at_nought]; exact h.al b hb,by rw [ats_nought]; exact h.ap⟩
def hitD (R:Rat × Rat) (b:Bq) (d:Nat):Option Rat:=if b.sp d < 0 then some ((b.pl d - 0) / (0 - b.sp d)) else if 0 < b.sp d then some ((rmD R d - b.far d) / (b.sp d - 0)) else none
def pr1D (b:Bq) (d:Nat):Pr:=if b.sp d < 0 then (d,-1,0) else (d,0,-2)
structure In1 (R:Rat × Rat) (b:Bq) (now:Rat):Prop where
 sz:∀ d,d<=1->0 < b.sz d/\b.sz d < rmD R d
 at':∀ d,d<=1->0<=b.pl d+b.sp d * now/\b.far d+b.sp d * now<=rmD R d
section
variable {R:Rat × Rat} {b:Bq} {now t:Rat} {d:Nat}
theorem JU:prsP 1=[(0,-1,0),(0,0,-2),(1,-1,0),(1,0,-2)]:=by decide
theorem jnt_near (hd:d<=1):jntP R [b] (d,-1,0)=if b.sp d < 0 then some ((b.pl d - 0) / (0 - b.sp d)) else none:=by
 obtain ⟨w1,w2,_⟩:=j5 (R:=R) (gs:=[b]) hd
 unfold jntP
 show (if (boxB R [b] d (-1)).sp d<=(boxB R [b] d 0).sp d then none else some (((boxB R [b] d 0).pl d - (boxB R [b] d (-1)).far d) / ((boxB R [b] d (-1)).sp d - (boxB R [b] d 0).sp d)))=_
 rw [show boxB R [b] d 0=b from rfl,w1,w2]
 by_cases c:b.sp d < 0
 ·rw [if_pos c,if_neg (Rat.not_le.mpr c)]
 ·rw [if_neg c,if_pos (Rat.not_lt.mp c)]
theorem jnt_far1 (hd:d<=1):jntP R [b] (d,0,-2)=if 0 < b.sp d then some ((rmD R d - b.far d) / (b.sp d - 0)) else none:=by
 obtain ⟨w1,w2,_⟩:=Zf (R:=R) (gs:=[b]) hd
 unfold jntP
 show (if (boxB R [b] d 0).sp d<=(boxB R [b] d (-2)).sp d then none else some (((boxB R [b] d (-2)).pl d - (boxB R [b] d 0).far d) / ((boxB R [b] d 0).sp d - (boxB R [b] d (-2)).sp d)))=_
 rw [show boxB R [b] d 0=b from rfl,w1,w2]
 by_cases c:0 < b.sp d
 ·rw [if_pos c,if_neg (Rat.not_le.mpr c)]
 ·rw [if_neg c,if_pos (Rat.not_lt.mp c)]
theorem Y8 {x:Rat} (h:x < 0):¬ 0 < x:=fun z=>by grind
theorem jnt_pr (hd:d<=1) (h:hitD R b d=some t):jntP R [b] (pr1D b d)=some t:=by
 unfold hitD at h
 unfold pr1D
 by_cases c:b.sp d < 0
 ·rw [if_pos c] at h ⊢
  rw [jnt_near hd,if_pos c]
  exact h
 ·rw [if_neg c] at h ⊢
  rw [jnt_far1 hd]
  exact h
theorem jnt_of {p:Pr} (hp:p∈prsP 1) (h:jntP R [b] p=some t):p.1<=1/\p=pr1D b p.1/\hitD R b p.1=some t:=by
 rw [JU] at hp
 have near:∀ d,d<=1->jntP R [b] (d,-1,0)=some t->(d,-1,0)=pr1D b d/\hitD R b d=some t:=fun d hd h=>by
  rw [jnt_near hd] at h
  unfold pr1D hitD
  by_cases c:b.sp d < 0
  ·rw [if_pos c] at h
   rw [if_pos c,if_pos c]
   exact ⟨rfl,h⟩
  ·rw [if_neg c] at h
   cases h
 have far:∀ d,d<=1->jntP R [b] (d,0,-2)=some t->(d,0,-2)=pr1D b d/\hitD R b d=some t:=fun d hd h=>by
  rw [jnt_far1 hd] at h
  unfold pr1D hitD
  by_cases c:0 < b.sp d
  ·rw [if_pos c] at h
   rw [if_neg (fun z=>Y8 z c),if_neg (fun z=>Y8 z c),if_pos c]
   exact ⟨rfl,h⟩
  ·rw [if_neg c] at h
   cases h
 simp only [List.mem_cons,List.not_mem_nil,or_false] at hp
 rcases hp with rfl|rfl|rfl|rfl
 ·exact ⟨by decide,near 0 (by decide) h⟩
 ·exact ⟨by decide,far 0 (by decide) h⟩
 ·exact ⟨by decide,near 1 (by decide) h⟩
 ·exact ⟨by decide,far 1 (by decide) h⟩
theorem pr_in (hd:d<=1):InP 1 (pr1D b d):=by
 unfold pr1D
 split
 ·exact ⟨hd,.inl rfl,.inr ⟨0,by decide,rfl⟩,by show (-1:Int)≠0; decide,.inr (by show (0:Int)<=0; decide)⟩
 ·exact ⟨hd,.inr ⟨0,by decide,rfl⟩,.inl rfl,by show (0:Int)≠-2; decide,.inl (by show (0:Int)<=0; decide)⟩
theorem YZ (h:In1 R b now) (hd:d<=1) (lt:now<=t) (hh:∀ s,hitD R b d=some s->t<=s):0<=b.pl d+b.sp d * t/\b.far d+b.sp d * t<=rmD R d:=by
 obtain ⟨a1,a2⟩:=h.at' d hd
 rcases Yg lt a1 a2 with w|⟨s,n,st,c,w⟩
 ·exact w t lt Rat.le_refl
 ·have e:hitD R b d=some s:=by
   unfold hitD
   rcases c with ⟨c1,c2⟩|⟨c1,c2⟩
   ·rw [if_pos (Rat.not_le.mp c1),c2]
   ·rw [if_neg (fun z=>c1 (Rat.le_of_lt z)),if_pos (Rat.not_le.mp c1),c2]
  have:=hh s e
  grind
theorem hit_low (h:In1 R b now) (hd:d<=1) (e:hitD R b d=some t):now<=t:=by
 obtain ⟨a1,a2⟩:=h.at' d hd
 unfold hitD at e
 by_cases c:b.sp d < 0
 ·rw [if_pos c] at e
  injection e with e
  have k:0 < 0 - b.sp d:=by grind
  have z:(0 - b.sp d) * ((b.pl d - 0) / (0 - b.sp d))=b.pl d - 0:=by
   have:0 - b.sp d≠0:=by grind
   grind
  rw [e] at z
  exact jG k (by grind)
 ·rw [if_neg c] at e
  by_cases c':0 < b.sp d
  ·rw [if_pos c'] at e
   injection e with e
   have k:0 < b.sp d - 0:=by grind
   have z:(b.sp d - 0) * ((rmD R d - b.far d) / (b.sp d - 0))=rmD R d - b.far d:=by
    have:b.sp d - 0≠0:=by grind
    grind
   rw [e] at z
   exact jG k (by grind)
  ·rw [if_neg c'] at e
   cases e
theorem met_pr (h:In1 R b now) (hd:d<=1) (w:0<=b.pl (1 - d)+b.sp (1 - d) * t/\b.far (1 - d)+b.sp (1 - d) * t<=rmD R (1 - d)):metP R [b] t (pr1D b d)=true:=by
 have hd':1 - d<=1:=by omega
 have sz:=h.sz (1 - d) hd'
 have fr:b.far (1 - d)=b.pl (1 - d)+b.sz (1 - d):=rfl
 have l1:b.pl (1 - d)+b.sp (1 - d) * t < rmD R (1 - d):=by grind
 have l2:0 < b.far (1 - d)+b.sp (1 - d) * t:=by grind
 unfold pr1D
 split
 ·obtain ⟨_,_,w3,w4,w5⟩:=j5 (R:=R) (gs:=[b]) hd
  unfold metP
  show hicB (atB t (boxB R [b] d (-1))) (atB t b) (1 - d)=true
  rw [jo,w3,w4,w5]
  exact ⟨by grind,by grind⟩
 ·obtain ⟨_,_,w3,w4,w5⟩:=Zf (R:=R) (gs:=[b]) hd
  unfold metP
  show hicB (atB t b) (atB t (boxB R [b] d (-2))) (1 - d)=true
  rw [jo,w3,w4,w5]
  exact ⟨by grind,by grind⟩
def minO:Option Rat->Option Rat->Option Rat
 |none,o=>o
 |some s,none=>some s
 |some s,some t=>if t < s then some t else some s
theorem Jg {o o':Option Rat} {T:Rat} (h:minO o o'=some T):(∀ s,o=some s->T<=s)/\(∀ s,o'=some s->T<=s)/\(o=some T\/o'=some T):=by
 match o,o',h with
 |none,some t,h=>cases h; exact ⟨fun s e=>(nomatch e),fun s e=>by cases e; exact Rat.le_refl,.inr rfl⟩
 |some s,none,h=>cases h; exact ⟨fun s e=>by cases e; exact Rat.le_refl,fun s e=>(nomatch e),.inl rfl⟩
 |some s,some t,h=>
  replace h:(if t < s then some t else some s)=some T:=h
  by_cases c:t < s
  ·rw [if_pos c] at h
   cases h
   exact ⟨fun s e=>by cases e; exact Rat.le_of_lt c,fun s e=>by cases e; exact Rat.le_refl,.inr rfl⟩
  ·rw [if_neg c] at h
   cases h
   exact ⟨fun s e=>by cases e; exact Rat.le_refl,fun s e=>by cases e; exact Rat.not_lt.mp c,.inl rfl⟩
theorem Y2 {o o':Option Rat} (h:minO o o'=none):o=none/\o'=none:=by
 match o,o',h with
 |none,none,_=>exact ⟨rfl,rfl⟩
 |some s,none,h=>cases h
 |some s,some t,h=>
  replace h:(if t < s then some t else some s)=none:=h
  split at h<;>cases h
theorem in_both (h:In1 R b now) {T:Rat} (e:minO (hitD R b 0) (hitD R b 1)=some T):now<=T/\∀ d,d<=1->0<=b.pl d+b.sp d * T/\b.far d+b.sp d * T<=rmD R d:=by
 obtain ⟨m1,m2,m3⟩:=Jg e
 have lo:now<=T:=by
  rcases m3 with z|z
  ·exact hit_low (d:=0) h (by decide) z
  ·exact hit_low (d:=1) h (by decide) z
 refine ⟨lo,fun d hd=>?_⟩
 rcases d01 hd with rfl|rfl
 ·exact YZ h hd lo m1
 ·exact YZ h hd lo m2
theorem ZU (h:In1 R b now):comP R [b] now=minO (hitD R b 0) (hitD R b 1):=by
 cases e:minO (hitD R b 0) (hitD R b 1) with
 |none=>
  obtain ⟨e0,e1⟩:=Y2 e
  cases c:comP R [b] now with
  |none=>rfl
  |some T=>
   obtain ⟨_,p,hp,j,_⟩:=Jz c
   obtain ⟨hd,_,hh⟩:=jnt_of (yK.mpr hp) j
   rcases d01 hd with z|z
   ·rw [z,e0] at hh; cases hh
   ·rw [z,e1] at hh; cases hh
 |some T=>
  obtain ⟨m1,m2,m3⟩:=Jg e
  obtain ⟨lo,inn⟩:=in_both h e
  have up:∃ T',comP R [b] now=some T'/\T'<=T:=by
   rcases m3 with z|z
   ·exact Jt (p:=pr1D b 0) (pr_in (d:=0) (by decide)) (jnt_pr (d:=0) (by decide) z) lo (by rw [met_pr (d:=0) h (by decide) (inn 1 (by decide))]; rfl)
   ·exact Jt (p:=pr1D b 1) (pr_in (d:=1) (by decide)) (jnt_pr (d:=1) (by decide) z) lo (by rw [met_pr (d:=1) h (by decide) (inn 0 (by decide))]; rfl)
  obtain ⟨T',c,l⟩:=up
  obtain ⟨_,p,hp,j,_⟩:=Jz c
  obtain ⟨hd,_,hh⟩:=jnt_of (yK.mpr hp) j
  have ge:T<=T':=by
   rcases d01 hd with z|z
   ·rw [z] at hh; exact m1 T' hh
   ·rw [z] at hh; exact m2 T' hh
  rw [c,show T'=T by grind]
theorem due_one (h:In1 R b now) {T:Rat} (e:comP R [b] now=some T):dueP R [b] now=(if hitD R b 0=some T then [pr1D b 0] else [])++(if hitD R b 1=some T then [pr1D b 1] else []):=by
 have e':=e
 rw [ZU h] at e'
 obtain ⟨lo,inn⟩:=in_both h e'
 unfold dueP
 rw [e]
 show List.filter (fun p=>cmgP R [b] (some T) p && metP R [b] T p) (prsP 1)=_
 have k:∀ p∈prsP 1,(cmgP R [b] (some T) p && metP R [b] T p)=decide (p=pr1D b p.1/\hitD R b p.1=some T):=fun p hp=>by
  have d1:p.1<=1:=(yK.mp hp).1
  by_cases j:jntP R [b] p=some T
  ·obtain ⟨_,a,c⟩:=jnt_of hp j
   have cm:cmgP R [b] (some T) p=true:=by
    unfold cmgP
    rw [j]
    simp
   have mt:metP R [b] T p=true:=by
    rw [a]
    have:=met_pr (R:=R) h d1 (inn (1 - p.1) (by omega))
    exact this
   rw [cm,mt,decide_eq_true ⟨a,c⟩]
   rfl
  ·have cm:cmgP R [b] (some T) p=false:=by
    unfold cmgP
    rw [decide_eq_false j,Bool.and_false]
   have no:¬ (p=pr1D b p.1/\hitD R b p.1=some T):=fun ⟨a,c⟩=>j (by rw [a]; exact jnt_pr d1 c)
   rw [cm,decide_eq_false no]
   rfl
 rw [List.filter_congr k,JU]
 have two:∀ d,d<=1->List.filter (fun p:Pr=>decide (p=pr1D b p.1/\hitD R b p.1=some T)) [(d,-1,0),(d,0,-2)]=if hitD R b d=some T then [pr1D b d] else []:=fun d hd=>by
  by_cases c:hitD R b d=some T
  ·rw [if_pos c]
   by_cases s:b.sp d < 0
   ·have e1:pr1D b d=(d,-1,0):=by unfold pr1D; rw [if_pos s]
    rw [List.filter_cons_of_pos (by simp [e1,c]),List.filter_cons_of_neg (by simp [e1]),List.filter_nil,e1]
   ·have e1:pr1D b d=(d,0,-2):=by unfold pr1D; rw [if_neg s]
    rw [List.filter_cons_of_neg (by simp [e1]),List.filter_cons_of_pos (by simp [e1,c]),List.filter_nil,e1]
  ·rw [if_neg c,List.filter_cons_of_neg (by simp [c]),List.filter_cons_of_neg (by simp [c]),List.filter_nil]
 rw [<- two 0 (by decide),<- two 1 (by decide),<- List.filter_append]
 rfl
theorem hit_at (hd:d<=1) (e:hitD R b d=some t):(b.sp d < 0/\b.pl d+b.sp d * t=0)\/(0 < b.sp d/\b.far d+b.sp d * t=rmD R d):=by
 unfold hitD at e
 by_cases c:b.sp d < 0
 ·rw [if_pos c] at e
  injection e with e
  refine .inl ⟨c,?_⟩
  have z:(0 - b.sp d) * ((b.pl d - 0) / (0 - b.sp d))=b.pl d - 0:=by
   have:0 - b.sp d≠0:=by grind
   grind
  rw [e] at z
  grind
 ·rw [if_neg c] at e
  by_cases c':0 < b.sp d
  ·rw [if_pos c'] at e
   injection e with e
   refine .inr ⟨c',?_⟩
   have z:(b.sp d - 0) * ((rmD R d - b.far d) / (b.sp d - 0))=rmD R d - b.far d:=by
    have:b.sp d - 0≠0:=by grind
    grind
   rw [e] at z
   grind
  ·rw [if_neg c'] at e
   cases e
theorem clo_one {c:Option Rat}:cloP R [b] c=false:=by
 unfold cloP
 show List.any (prsP 1) _=false
 rw [JU]
 have k:∀ q:Pr,(q.2.1 < 0\/q.2.2 < 0)->corP R [b] q=false:=fun q hq=>by
  unfold corP
  rcases hq with z|z
  ·rw [decide_eq_false (show ¬ 0<=q.2.1 by omega),Bool.false_and]
  ·rw [decide_eq_false (show ¬ 0<=q.2.2 by omega),Bool.false_and,Bool.and_false]
 simp [List.any_cons,k (0,-1,0) (.inl (by decide)),k (0,0,-2) (.inr (by decide)),k (1,-1,0) (.inl (by decide)),k (1,0,-2) (.inr (by decide))]
theorem cnr_one {c:Bq} {ps:List Pr}:cnrP [c] ps=false:=rfl
theorem hem_one (h:In1 R b now) (hd:d<=1) (e:hitD R b d=some t):hemP R [atB t b] [pr1D b d]=false:=by
 obtain ⟨sz0,sz1⟩:=h.sz d hd
 have fr:b.far d=b.pl d+b.sz d:=rfl
 unfold hemP
 show List.any (prsP 1) _=false
 rw [Bool.eq_false_iff]
 intro z
 obtain ⟨n,hn,z⟩:=List.any_eq_true.mp z
 rw [Bool.and_eq_true] at z
 obtain ⟨z1,z2⟩:=z
 rw [List.any_cons,List.any_nil,Bool.or_false,Bool.and_eq_true,Bool.or_eq_true,decide_eq_true_eq,decide_eq_true_eq,decide_eq_true_eq] at z2
 obtain ⟨y1,y2⟩:=z2
 unfold besB at z1
 rw [Bool.and_eq_true] at z1
 have z1:=of_decide_eq_true z1.1
 rw [JU] at hn
 have pe:(pr1D b d).1=d:=by unfold pr1D; split<;>rfl
 rw [pe] at y1
 have nd:n.1<=1:=by
  simp only [List.mem_cons,List.not_mem_nil,or_false] at hn
  rcases hn with rfl|rfl|rfl|rfl<;>decide
 rcases hit_at hd e with ⟨c,w⟩|⟨c,w⟩
 ·have e1:pr1D b d=(d,-1,0):=by unfold pr1D; rw [if_pos c]
  rw [e1] at y2
  have nn:n=(d,0,-2):=by
   simp only [List.mem_cons,List.not_mem_nil,or_false] at hn
   rcases hn with rfl|rfl|rfl|rfl
   ·rcases y2 with z|z<;>cases z
   ·rw [y1]
   ·rcases y2 with z|z<;>cases z
   ·rw [y1]
  rw [nn] at z1
  replace z1:(atB t b).far d=(boxB R [atB t b] d (-2)).pl d:=z1
  rw [ZM,(Zf (R:=R) (gs:=[atB t b]) hd).1] at z1
  grind
 ·have e1:pr1D b d=(d,0,-2):=by unfold pr1D; rw [if_neg (fun z=>Y8 z c)]
  rw [e1] at y2
  have nn:n=(d,-1,0):=by
   simp only [List.mem_cons,List.not_mem_nil,or_false] at hn
   rcases hn with rfl|rfl|rfl|rfl
   ·rw [y1]
   ·rcases y2 with z|z<;>cases z
   ·rw [y1]
   ·rcases y2 with z|z<;>cases z
  rw [nn] at z1
  replace z1:(boxB R [atB t b] d (-1)).far d=(atB t b).pl d:=z1
  rw [YA,(j5 (R:=R) (gs:=[atB t b]) hd).1] at z1
  grind
theorem two_one (d:Nat):twoP [pr1D b d]=false:=by
 unfold twoP numP pr1D
 split<;>simp
theorem two_both:twoP ([pr1D b 0]++[pr1D b 1])=true:=by
 unfold twoP numP pr1D
 split<;>split<;>simp
theorem crw_one (h:In1 R b now) {T:Rat} (e:comP R [b] now=some T):crwP R [b] now=decide (hitD R b 0=some T/\hitD R b 1=some T):=by
 have e':=e
 rw [ZU h] at e'
 obtain ⟨_,_,m3⟩:=Jg e'
 unfold crwP
 rw [due_one h e,e,clo_one]
 show (_ || (hemP R [atB T b] _ || (cnrP [atB T b] _ || false)))=_
 rw [cnr_one]
 by_cases c0:hitD R b 0=some T
 ·by_cases c1:hitD R b 1=some T
  ·rw [if_pos c0,if_pos c1,two_both,decide_eq_true ⟨c0,c1⟩]
   rfl
  ·rw [if_pos c0,if_neg c1,List.append_nil,two_one,hem_one h (by decide) c0,decide_eq_false (fun z=>c1 z.2)]
   rfl
 ·have c1:hitD R b 1=some T:=by rcases m3 with z|z; exact absurd z c0; exact z
  rw [if_neg c0,if_pos c1,List.nil_append,two_one,hem_one h (by decide) c1,decide_eq_false (fun z=>c0 z.1)]
  rfl
def trn1 (R:Rat × Rat) (b:Bq) (d:Nat):Bq:=if b.sp d < 0 then b.with d (-b.pl d) (-b.sp d) else b.with d (rmD R d - b.sz d+(rmD R d - b.sz d) - b.pl d) (-b.sp d)
theorem prt_one (hd:d<=1):prtP R [b] (pr1D b d)=[trn1 R b d]:=by
 unfold pr1D trn1
 by_cases c:b.sp d < 0
 ·rw [if_pos c,if_pos c]
  obtain ⟨w1,_⟩:=j5 (R:=R) (gs:=[b]) hd
  have wm:(boxB R [b] d (-1)).m=none:=YQ (by decide)
  show [JF b d (ptd (yA b d) (farG (boxB R [b] d (-1)) d))]=_
  unfold farG
  rw [w1,wm]
  show [b.with d ((0:Rat)+0 - b.pl d) (-b.sp d)]=_
  rw [show (0:Rat)+0 - b.pl d=-b.pl d by grind]
 ·rw [if_neg c,if_neg c]
  obtain ⟨w1,_⟩:=Zf (R:=R) (gs:=[b]) hd
  have wm:(boxB R [b] d (-2)).m=none:=YQ (by decide)
  show [JN b d (ptd (farG b d) (yA (boxB R [b] d (-2)) d))]=_
  unfold yA
  rw [w1,wm]
  show [b.with d (rmD R d+rmD R d - b.far d - b.sz d) (-b.sp d)]=_
  rw [show rmD R d+rmD R d - b.far d - b.sz d=rmD R d - b.sz d+(rmD R d - b.sz d) - b.pl d by unfold Bq.far; grind]
theorem on_one (h:In1 R b now) {T:Rat} (e:comP R [b] now=some T) (hd:d<=1) (c:hitD R b d=some T) (c':hitD R b (1 - d)≠some T):onP R [b] now=[trn1 R b d]:=by
 unfold onP
 rw [due_one h e]
 rcases d01 hd with rfl|rfl
 ·rw [if_pos c,if_neg c',List.append_nil]
  exact prt_one hd
 ·rw [if_neg c',if_pos c,List.nil_append]
  exact prt_one hd
end
section
variable {R:Rat × Rat} {b:Bq} {now t:Rat} {d e:Nat}
theorem YL:(trn1 R b d).sz e=b.sz e:=by
 unfold trn1
 split<;>exact Ji
theorem trn_m:(trn1 R b d).m=b.m:=by
 unfold trn1
 split<;>exact with_m
theorem ZK (hd:d<=1) (he:e<=1):(trn1 R b d).sp e=if e=d then -b.sp d else b.sp e:=by
 unfold trn1
 split<;>exact jg hd he
theorem Js (hd:d<=1) (he:e<=1):(trn1 R b d).pl e=if e=d then (if b.sp d < 0 then -b.pl d else rmD R d - b.sz d+(rmD R d - b.sz d) - b.pl d) else b.pl e:=by
 unfold trn1
 by_cases c:b.sp d < 0
 ·rw [if_pos c,if_pos c]
  exact ZF hd he
 ·rw [if_neg c,if_neg c]
  exact ZF hd he
theorem ZP:b.far e=b.pl e+b.sz e:=rfl
theorem hit_other (hd:d<=1):hitD R (trn1 R b d) (1 - d)=hitD R b (1 - d):=by
 have ne:¬ 1 - d=d:=by omega
 have e1:(trn1 R b d).sp (1 - d)=b.sp (1 - d):=by rw [ZK hd (by omega),if_neg ne]
 have e2:(trn1 R b d).pl (1 - d)=b.pl (1 - d):=by rw [Js hd (by omega),if_neg ne]
 unfold hitD
 rw [ZP,ZP,YL,e1,e2]
theorem Yb (hd:d<=1) (h:hitD R b d=some t):hitD R (trn1 R b d) d=some (t+(rmD R d - b.sz d) / absQ (b.sp d)):=by
 unfold hitD at h ⊢
 unfold absQ
 rw [ZP,YL,ZK hd hd,Js hd hd,if_pos rfl,if_pos rfl]
 by_cases c:b.sp d < 0
 ·rw [if_pos c] at h
  injection h with h
  rw [if_pos c,if_pos c,if_neg (show ¬ -b.sp d < 0 by grind),if_pos (show 0 < -b.sp d by grind),<- h]
  have k:b.sp d≠0:=by grind
  generalize b.sp d=v at k
  generalize b.pl d=p
  generalize b.sz d=s
  generalize rmD R d=L
  congr 1
  have:0 - v≠0:=by grind
  have:-v - 0≠0:=by grind
  have:-v≠0:=by grind
  have e1:-v - 0=-v:=by grind
  have e2:0 - v=-v:=by grind
  rw [e1,e2]
  grind
 ·rw [if_neg c] at h
  by_cases c':0 < b.sp d
  ·rw [if_pos c'] at h
   injection h with h
   rw [if_neg c,if_neg c,if_pos (show -b.sp d < 0 by grind),<- h,ZP]
   have k:b.sp d≠0:=by grind
   generalize b.sp d=v at k
   generalize b.pl d=p
   generalize b.sz d=s
   generalize rmD R d=L
   congr 1
   have e1:v - 0=v:=by grind
   have e2:0 - -v=v:=by grind
   rw [e1,e2]
   grind
  ·rw [if_neg c'] at h
   cases h
theorem in_trn (h:In1 R b now) (hd:d<=1) (lt:now<=t) (e1:hitD R b d=some t) (e2:∀ s,hitD R b (1 - d)=some s->t<=s):In1 R (trn1 R b d) t:=by
 refine ⟨fun e he=>by rw [YL]; exact h.sz e he,fun e he=>?_⟩
 have a:=YZ h hd lt (fun s z=>by rw [e1] at z; cases z; exact Rat.le_refl)
 rw [ZP,YL,ZK hd he,Js hd he]
 by_cases c:e=d
 ·subst c
  rw [if_pos rfl,if_pos rfl]
  have sz:=h.sz e he
  rw [ZP] at a
  rcases hit_at hd e1 with ⟨c,w⟩|⟨c,w⟩
  ·rw [if_pos c]
   constructor<;>grind
  ·rw [if_neg (fun z=>Y8 z c)]
   rw [ZP] at w
   constructor<;>grind
 ·rw [if_neg c,if_neg c]
  have ee:e=1 - d:=by omega
  subst ee
  have:=YZ h he lt e2
  rw [ZP] at this
  exact this
def zd (R:Rat × Rat) (d:Nat):Nat->Bq->List (Rat × Pr)
 |0,_=>[]
 |n+1,b=>match hitD R b d with
  |none=>[]
  |some t=>(t,pr1D b d)::zd R d n (trn1 R b d)
theorem pr_other (hd:d<=1):pr1D (trn1 R b d) (1 - d)=pr1D b (1 - d):=by
 have ne:¬ 1 - d=d:=by omega
 have e1:(trn1 R b d).sp (1 - d)=b.sp (1 - d):=by rw [ZK hd (by omega),if_neg ne]
 unfold pr1D
 rw [e1]
theorem trn_comm:trn1 R (trn1 R b 0) 1=trn1 R (trn1 R b 1) 0:=by
 unfold trn1 Bq.with Bq.sp Bq.pl Bq.sz
 simp only [if_true,show ¬ (1:Nat)=0 by decide,if_false]
 split<;>split<;>rfl
theorem YN (hd:d<=1):∀ (n:Nat) (b:Bq),zd R (1 - d) n (trn1 R b d)=zd R (1 - d) n b
 |0,_=>rfl
 |n+1,b=>by
  unfold zd
  rw [hit_other hd,pr_other hd]
  cases hitD R b (1 - d) with
  |none=>rfl
  |some t=>
   dsimp only
   congr 1
   rw [<- YN hd n (trn1 R b (1 - d))]
   congr 1
   rcases d01 hd with rfl|rfl
   ·exact trn_comm
   ·exact trn_comm.symm
def mrgQ:List (Rat × Pr)->List (Rat × Pr)->List (Rat × Pr)
 |[],ys=>ys
 |x::xs,[]=>x::xs
 |x::xs,y::ys=>if y.1 < x.1 then y::mrgQ (x::xs) ys else x::mrgQ xs (y::ys)
termination_by xs ys=>xs.length+ys.length
def scnQ:Nat->List (Rat × Pr)->String × List (Rat × Pr)
 |_,[]=>("still",[])
 |0,_::_=>("more",[])
 |n+1,x::xs=>if xs.head?.map (·.1)=some x.1 then ("crowd",[]) else ((scnQ n xs).1,x::(scnQ n xs).2)
def tnsQ (R:Rat × Rat) (b:Bq) (ms:List (Rat × Pr)):Bq:=ms.foldl (fun c m=>trn1 R c m.2.1) b
def lstT (now:Rat) (ms:List (Rat × Pr)):Rat:=ms.foldl (fun _ m=>m.1) now
theorem yH {n:Nat} (h:hitD R b d=none):zd R d (n+1) b=[]:=by
 unfold zd
 rw [h]
theorem zg {n:Nat} (h:hitD R b d=some t):zd R d (n+1) b=(t,pr1D b d)::zd R d n (trn1 R b d):=by
 conv=>lhs; unfold zd
 rw [h]
theorem abs_pos (h:hitD R b d=some t):0 < absQ (b.sp d):=by
 unfold hitD at h
 unfold absQ
 by_cases c:b.sp d < 0
 ·rw [if_pos c]; grind
 ·rw [if_neg c] at h ⊢
  by_cases c':0 < b.sp d
  ·exact c'
  ·rw [if_neg c'] at h; cases h
theorem pr_way (hd:d<=1):(pr1D b d).1=d:=by
 unfold pr1D
 split<;>rfl
theorem div_pos_q {x y:Rat} (hx:0 < x) (hy:0 < y):0 < x / y:=by
 rw [Rat.div_def]
 exact Z3 hx (Rat.inv_pos.mpr hy)
theorem YJ (h:In1 R b now) (hd:d<=1) (e1:hitD R b d=some t) (n:Nat):(zd R d (n+1) (trn1 R b d)).head?.map (·.1)=some (t+(rmD R d - b.sz d) / absQ (b.sp d))/\t < t+(rmD R d - b.sz d) / absQ (b.sp d):=by
 rw [zg (Yb hd e1)]
 refine ⟨rfl,?_⟩
 have:=div_pos_q (show 0 < rmD R d - b.sz d by have:=(h.sz d hd).2; grind) (abs_pos e1)
 grind
theorem mrg_head {xs ys:List (Rat × Pr)} {T:Rat} (h1:∀ s,xs.head?.map (·.1)=some s->T < s) (h2:∀ s,ys.head?.map (·.1)=some s->T < s):(mrgQ xs ys).head?.map (·.1)≠some T:=by
 match xs,ys with
 |[],ys=>
  unfold mrgQ
  intro z
  exact absurd (h2 T z) Rat.lt_irrefl
 |x::xs,[]=>
  unfold mrgQ
  intro z
  exact absurd (h1 T z) Rat.lt_irrefl
 |x::xs,y::ys=>
  unfold mrgQ
  intro z
  split at z
  ·exact absurd (h2 T z) Rat.lt_irrefl
  ·exact absurd (h1 T z) Rat.lt_irrefl
theorem run_scan:∀ (n:Nat) {b:Bq} {now:Rat} {N0 N1:Nat} {wd:String} {ms:List (Rat × Pr)} {es:List Bq} {last:Rat},In1 R b now->n+2<=N0->n+2<=N1->RunP R [b] now n wd ms es last->
  (wd,ms)=scnQ n (mrgQ (zd R 0 N0 b) (zd R 1 N1 b))/\es=[tnsQ R b ms]/\last=lstT now ms:=by
 intro n
 induction n with
 |zero=>
  intro b now N0 N1 wd ms es last h l0 l1 r
  obtain ⟨N0,rfl⟩:∃ k,N0=k+1:=⟨N0 - 1,by omega⟩
  obtain ⟨N1,rfl⟩:∃ k,N1=k+1:=⟨N1 - 1,by omega⟩
  cases r with
  |still z=>
   rw [ZU h] at z
   obtain ⟨e0,e1⟩:=Y2 z
   rw [yH e0,yH e1]
   refine ⟨?_,rfl,rfl⟩
   unfold mrgQ scnQ
   rfl
  |more z=>
   rw [ZU h] at z
   refine ⟨?_,rfl,rfl⟩
   cases e0:hitD R b 0 with
   |none=>
    cases e1:hitD R b 1 with
    |none=>rw [e0,e1] at z; cases z
    |some t1=>
     rw [yH e0,zg e1]
     unfold mrgQ scnQ
     rfl
   |some t0=>
    cases e1:hitD R b 1 with
    |none=>
     rw [zg e0,yH e1]
     unfold mrgQ scnQ
     rfl
    |some t1=>
     rw [zg e0,zg e1]
     unfold mrgQ
     split
     ·unfold scnQ; rfl
     ·unfold scnQ; rfl
 |succ n ih=>
  intro b now N0 N1 wd ms es last h l0 l1 r
  obtain ⟨N0,rfl⟩:∃ k,N0=k+2:=⟨N0 - 2,by omega⟩
  obtain ⟨N1,rfl⟩:∃ k,N1=k+2:=⟨N1 - 2,by omega⟩
  have go:∀ {T:Rat} {wd:String} {ms:List (Rat × Pr)} {es:List Bq} {last:Rat},comP R [b] now=some T->crwP R [b] now=false->RunP R (onP R [b] now) T n wd ms es last->
    (wd,mtsP R [b] now++ms)=scnQ (n+1) (mrgQ (zd R 0 (N0+2) b) (zd R 1 (N1+2) b))/\es=[tnsQ R b (mtsP R [b] now++ms)]/\last=lstT now (mtsP R [b] now++ms):=by
   intro T wd ms es last e cw r
   have e':=e
   rw [ZU h] at e'
   obtain ⟨m1,m2,m3⟩:=Jg e'
   obtain ⟨lo,inn⟩:=in_both h e'
   rw [crw_one h e] at cw
   have cw:=of_decide_eq_false cw
   unfold mtsP
   rw [due_one h e,e]
   by_cases c0:hitD R b 0=some T
   ·have c1:hitD R b 1≠some T:=fun z=>cw ⟨c0,z⟩
    have c1':∀ s,hitD R b 1=some s->T < s:=fun s z=>by
     have:=m2 s z
     rcases Rat.le_iff_lt_or_eq.mp this with y|y
     ·exact y
     ·exact absurd (y▸z) c1
    rw [on_one (d:=0) h e (by decide) c0 c1] at r
    obtain ⟨i1,i2,i3⟩:=ih (in_trn h (d:=0) (by decide) lo c0 m2) (show n+2<=N0+1 by omega) (show n+2<=N1+2 by omega) r
    rw [YN (d:=0) (by decide) (N1+2) b] at i1
    rw [if_pos c0,if_neg c1,List.append_nil]
    show (wd,(T,pr1D b 0)::ms)=_/\es=[tnsQ R (trn1 R b (pr1D b 0).1) ms]/\last=lstT T ms
    rw [pr_way (d:=0) (by decide)]
    refine ⟨?_,i2,i3⟩
    have hm:mrgQ (zd R 0 (N0+2) b) (zd R 1 (N1+2) b)=(T,pr1D b 0)::mrgQ (zd R 0 (N0+1) (trn1 R b 0)) (zd R 1 (N1+2) b):=by
     rw [zg (n:=N0+1) c0]
     cases e1:hitD R b 1 with
     |none=>
      rw [yH e1]
      have z:∀ l:List (Rat × Pr),mrgQ l []=l:=fun l=>by cases l<;>unfold mrgQ<;>rfl
      rw [z,z]
     |some s=>
      rw [zg (n:=N1+1) e1]
      conv=>lhs; unfold mrgQ
      rw [if_neg (show ¬ s < T from Rat.not_lt.mpr (m2 s e1))]
    rw [hm]
    have hh:=mrg_head (T:=T) (xs:=zd R 0 (N0+1) (trn1 R b 0)) (ys:=zd R 1 (N1+2) b) (fun s z=>by
     obtain ⟨y1,y2⟩:=YJ h (d:=0) (by decide) c0 N0
     rw [y1] at z
     cases z
     exact y2) (fun s z=>by
     cases e1:hitD R b 1 with
     |none=>rw [yH e1] at z; cases z
     |some s1=>
      rw [zg (n:=N1+1) e1] at z
      cases z
      exact c1' _ e1)
    conv=>rhs; unfold scnQ
    rw [if_neg hh,<- i1]
   ·have c1:hitD R b 1=some T:=by rcases m3 with z|z; exact absurd z c0; exact z
    have c0':∀ s,hitD R b 0=some s->T < s:=fun s z=>by
     have:=m1 s z
     rcases Rat.le_iff_lt_or_eq.mp this with y|y
     ·exact y
     ·exact absurd (y▸z) c0
    rw [on_one (d:=1) h e (by decide) c1 c0] at r
    obtain ⟨i1,i2,i3⟩:=ih (in_trn h (d:=1) (by decide) lo c1 m1) (show n+2<=N0+2 by omega) (show n+2<=N1+1 by omega) r
    rw [YN (d:=1) (by decide) (N0+2) b] at i1
    rw [if_neg c0,if_pos c1,List.nil_append]
    show (wd,(T,pr1D b 1)::ms)=_/\es=[tnsQ R (trn1 R b (pr1D b 1).1) ms]/\last=lstT T ms
    rw [pr_way (d:=1) (by decide)]
    refine ⟨?_,i2,i3⟩
    have hm:mrgQ (zd R 0 (N0+2) b) (zd R 1 (N1+2) b)=(T,pr1D b 1)::mrgQ (zd R 0 (N0+2) b) (zd R 1 (N1+1) (trn1 R b 1)):=by
     rw [zg (n:=N1+1) c1]
     cases e0:hitD R b 0 with
     |none=>
      rw [yH e0]
      unfold mrgQ
      rfl
     |some s=>
      rw [zg (n:=N0+1) e0]
      conv=>lhs; unfold mrgQ
      rw [if_pos (show T < s from c0' s e0)]
    rw [hm]
    have hh:=mrg_head (T:=T) (xs:=zd R 0 (N0+2) b) (ys:=zd R 1 (N1+1) (trn1 R b 1)) (fun s z=>by
     cases e0:hitD R b 0 with
     |none=>rw [yH e0] at z; cases z
     |some s1=>
      rw [zg (n:=N0+1) e0] at z
      cases z
      exact c0' _ e0) (fun s z=>by
     obtain ⟨y1,y2⟩:=YJ h (d:=1) (by decide) c1 N1
     rw [y1] at z
     cases z
     exact y2)
    conv=>rhs; unfold scnQ
    rw [if_neg hh,<- i1]
  cases r with
  |still z=>
   rw [ZU h] at z
   obtain ⟨e0,e1⟩:=Y2 z
   rw [yH e0,yH e1]
   refine ⟨?_,rfl,rfl⟩
   unfold mrgQ scnQ
   rfl
  |@crowd _ _ T _ z cw=>
   have e':=z
   rw [ZU h] at e'
   rw [crw_one h z] at cw
   obtain ⟨c0,c1⟩:=of_decide_eq_true cw
   refine ⟨?_,rfl,rfl⟩
   have hm:mrgQ (zd R 0 (N0+2) b) (zd R 1 (N1+2) b)=(T,pr1D b 0)::mrgQ (zd R 0 (N0+1) (trn1 R b 0)) ((T,pr1D b 1)::zd R 1 (N1+1) (trn1 R b 1)):=by
    rw [zg (n:=N0+1) c0,zg (n:=N1+1) c1]
    conv=>lhs; unfold mrgQ
    rw [if_neg (show ¬ T < T from Rat.lt_irrefl)]
   rw [hm]
   obtain ⟨y1,y2⟩:=YJ h (d:=0) (by decide) c0 N0
   have hh:(mrgQ (zd R 0 (N0+1) (trn1 R b 0)) ((T,pr1D b 1)::zd R 1 (N1+1) (trn1 R b 1))).head?.map (·.1)=some T:=by
    rw [zg (Yb (d:=0) (by decide) c0)]
    unfold mrgQ
    rw [if_pos y2]
    rfl
   unfold scnQ
   rw [if_pos hh]
  |step z cw r=>exact go z cw r
end
theorem iteTz {c:Bool} {A B:Prop} (h:c=true) (q:A):if c=true then A else B:=by
 subst h
 exact iteT q
def fldQ (f u:Rat):Rat:=if f < Ya u (f+f) then f+f - Ya u (f+f) else Ya u (f+f)
theorem fld_is {f u pos:Rat} {z:Int} (hf:0 < f) (h0:0<=pos) (h1:pos<=f) (h:u=pos+(z:Rat) * (f+f)\/u=-pos+(z:Rat) * (f+f)):fldQ f u=pos:=by
 have ff:0 < f+f:=by grind
 have one:∀ z:Int,u=pos+(z:Rat) * (f+f)->fldQ f u=pos:=fun z h=>by
  have e:=spot_is (x:=u) (k:=z) ff ⟨by grind,by grind⟩
  have s:Ya u (f+f)=pos:=by grind
  unfold fldQ
  rw [s,if_neg (Rat.not_lt.mpr h1)]
 rcases h with h|h
 ·exact one z h
 ·rcases Rat.le_iff_lt_or_eq.mp h0 with p|p
  ·have c:((z - 1:Int):Rat)=(z:Rat) - 1:=by rw [Rat.intCast_sub]; rfl
   have e:=spot_is (x:=u) (k:=z - 1) ff ⟨by rw [c]; grind,by rw [c]; grind⟩
   have s:Ya u (f+f)=f+f - pos:=by rw [<- e,c]; grind
   unfold fldQ
   rw [s]
   split<;>grind
  ·exact one z (by grind)
def CngQ (f p v:Rat) (b:Bq) (d:Nat):Prop:=∃ z:Int,(b.sp d=v/\∀ t,p+v * t=b.pl d+b.sp d * t+(z:Rat) * (f+f))\/(b.sp d=-v/\∀ t,p+v * t=-(b.pl d+b.sp d * t)+(z:Rat) * (f+f))
section
variable {R:Rat × Rat} {b:Bq} {d e:Nat} {f p v:Rat}
theorem cng_start:CngQ f (b.pl d) (b.sp d) b d:=⟨0,.inl ⟨rfl,fun t=>by have:((0:Int):Rat)=0:=rfl; rw [this]; grind⟩⟩
theorem cng_trn (hd:d<=1) (he:e<=1) (hf:e=d->f=rmD R d - b.sz d) (h:CngQ f p v b e):CngQ f p v (trn1 R b d) e:=by
 by_cases c:e=d
 ·subst c
  have ef:=hf rfl
  obtain ⟨z,h⟩:=h
  have sp:=ZK (R:=R) (b:=b) hd hd
  have pl:=Js (R:=R) (b:=b) hd hd
  rw [if_pos rfl] at sp pl
  unfold CngQ
  rw [sp,pl,<- ef]
  have c1:((z+1:Int):Rat)=(z:Rat)+1:=by rw [Rat.intCast_add]; rfl
  have c2:((z - 1:Int):Rat)=(z:Rat) - 1:=by rw [Rat.intCast_sub]; rfl
  by_cases s:b.sp e < 0
  ·rw [if_pos s]
   rcases h with ⟨h1,h2⟩|⟨h1,h2⟩
   ·exact ⟨z,.inr ⟨by grind,fun t=>by have:=h2 t; grind⟩⟩
   ·exact ⟨z,.inl ⟨by grind,fun t=>by have:=h2 t; grind⟩⟩
  ·rw [if_neg s]
   rcases h with ⟨h1,h2⟩|⟨h1,h2⟩
   ·exact ⟨z+1,.inr ⟨by grind,fun t=>by have:=h2 t; rw [c1]; grind⟩⟩
   ·exact ⟨z - 1,.inl ⟨by grind,fun t=>by have:=h2 t; rw [c2]; grind⟩⟩
 ·have sp:=ZK (R:=R) (b:=b) hd he
  have pl:=Js (R:=R) (b:=b) hd he
  rw [if_neg c] at sp pl
  unfold CngQ
  rw [sp,pl]
  exact h
theorem tns_sz:∀ (ms:List (Rat × Pr)) (b:Bq),(tnsQ R b ms).sz e=b.sz e
 |[],_=>rfl
 |m::ms,b=>by
  show (tnsQ R (trn1 R b m.2.1) ms).sz e=_
  rw [tns_sz ms,YL]
theorem tns_m:∀ (ms:List (Rat × Pr)) (b:Bq),(tnsQ R b ms).m=b.m
 |[],_=>rfl
 |m::ms,b=>by
  show (tnsQ R (trn1 R b m.2.1) ms).m=_
  rw [tns_m ms,trn_m]
theorem cng_tns (he:e<=1):∀ (ms:List (Rat × Pr)) {b:Bq},(∀ m∈ms,m.2.1<=1)->f=rmD R e - b.sz e->CngQ f p v b e->CngQ f p v (tnsQ R b ms) e
 |[],_,_,_,h=>h
 |m::ms,b,hm,hf,h=>by
  show CngQ f p v (tnsQ R (trn1 R b m.2.1) ms) e
  exact cng_tns he ms (fun x hx=>hm x (List.mem_cons_of_mem _ hx)) (by rw [YL]; exact hf) (cng_trn (hm m (List.mem_cons_self ..)) he (fun c=>by rw [<- c]; exact hf) h)
theorem place_is {t:Rat} {ms:List (Rat × Pr)} (he:e<=1) (hm:∀ m∈ms,m.2.1<=1) (hs:b.sz e < rmD R e) (h0:0<=(tnsQ R b ms).pl e+(tnsQ R b ms).sp e * t) (h1:(tnsQ R b ms).far e+(tnsQ R b ms).sp e * t<=rmD R e) :
  fldQ (rmD R e - b.sz e) (b.pl e+b.sp e * t)=(tnsQ R b ms).pl e+(tnsQ R b ms).sp e * t:=by
 obtain ⟨z,h⟩:=cng_tns (R:=R) (f:=rmD R e - b.sz e) he ms hm rfl (cng_start (b:=b) (d:=e))
 have sz:=tns_sz (R:=R) (e:=e) ms b
 rw [ZP,sz] at h1
 refine fld_is (z:=z) (by grind) h0 (by grind) ?_
 rcases h with ⟨_,h⟩|⟨_,h⟩
 ·exact .inl (h t)
 ·exact .inr (h t)
theorem tns_sp (he:e<=1):∀ (ms:List (Rat × Pr)) {b:Bq},(∀ m∈ms,m.2.1<=1)->(tnsQ R b ms).sp e=ms.foldl (fun s m=>if m.2.1=e then -s else s) (b.sp e)
 |[],_,_=>rfl
 |m::ms,b,hm=>by
  show (tnsQ R (trn1 R b m.2.1) ms).sp e=ms.foldl _ (if m.2.1=e then -b.sp e else b.sp e)
  rw [tns_sp he ms fun x hx=>hm x (List.mem_cons_of_mem _ hx),ZK (hm m (List.mem_cons_self ..)) he]
  by_cases c:e=m.2.1
  ·rw [if_pos c,if_pos c.symm,c]
  ·rw [if_neg c,if_neg (fun z=>c z.symm)]
end
def spF (e:Nat) (ms:List (Rat × Pr)) (s:Rat):Rat:=ms.foldl (fun s m=>if m.2.1=e then -s else s) s
def thB (R:Rat × Rat) (b:Bq) (ms:List (Rat × Pr)) (t:Rat):Bq:=⟨fldQ (rmD R 0 - b.sz 0) (b.pl 0+b.sp 0 * t),fldQ (rmD R 1 - b.sz 1) (b.pl 1+b.sp 1 * t),b.w,b.h,spF 0 ms b.u,spF 1 ms b.v,b.m⟩
theorem scn_pre:∀ (k n:Nat) (hs:List (Rat × Pr)),k<=n->k<=hs.length->(∀ j,j < k->∀ a b,hs[j]?=some a->hs[j+1]?=some b->a.1≠b.1)->scnQ n hs=((scnQ (n - k) (hs.drop k)).1,hs.take k++(scnQ (n - k) (hs.drop k)).2)
 |0,n,hs,_,_,_=>by simp
 |k+1,0,_,h,_,_=>absurd h (by omega)
 |k+1,n+1,[],_,h,_=>absurd h (by simp)
 |k+1,n+1,x::xs,h1,h2,h3=>by
  have ih:=scn_pre k n xs (by omega) (by simp at h2; omega) (fun j hj a b ha hb=>h3 (j+1) (by omega) a b (by simpa using ha) (by simpa using hb))
  have no:¬ xs.head?.map (·.1)=some x.1:=fun z=>by
   cases xs with
   |nil=>cases z
   |cons y ys=>
    injection z with z
    exact h3 0 (by omega) x y rfl rfl z.symm
  conv=>lhs; unfold scnQ
  rw [if_neg no,ih,show n+1 - (k+1)=n - k by omega]
  rfl
theorem scn_crowd {n k:Nat} {hs:List (Rat × Pr)} {a b:Rat × Pr} (ha:hs[k]?=some a) (hb:hs[k+1]?=some b) (e:a.1=b.1) (h:k < n):scnQ (n - k) (hs.drop k)=("crowd",[]):=by
 obtain ⟨l1,e1⟩:=List.getElem?_eq_some_iff.mp ha
 obtain ⟨l2,e2⟩:=List.getElem?_eq_some_iff.mp hb
 rw [List.drop_eq_getElem_cons l1,List.drop_eq_getElem_cons l2,e1,e2,show n - k=(n - k - 1)+1 by omega]
 unfold scnQ
 rw [if_pos (by rw [e]; rfl)]
theorem scn_more {n:Nat} {hs:List (Rat × Pr)} (h:n < hs.length):scnQ (n - n) (hs.drop n)=("more",[]):=by
 rw [List.drop_eq_getElem_cons h,Nat.sub_self]
 unfold scnQ
 rfl
section
variable {R:Rat × Rat} {b:Bq} {d:Nat}
theorem hits_len (hd:d<=1):∀ (n:Nat) {b:Bq} {t:Rat},hitD R b d=some t->(zd R d n b).length=n
 |0,_,_,_=>rfl
 |n+1,b,t,h=>by
  rw [zg h,List.length_cons,hits_len hd n (Yb hd h)]
theorem hits_two (hd:d<=1) (n:Nat):zd R d (n+1) b=[]\/(zd R d (n+1) b).length=n+1:=by
 cases h:hitD R b d with
 |none=>exact .inl (yH h)
 |some t=>exact .inr (hits_len hd _ h)
theorem Jb:∀ (xs ys:List (Rat × Pr)),(mrgQ xs ys).length=xs.length+ys.length
 |[],ys=>by unfold mrgQ; simp
 |x::xs,[]=>by unfold mrgQ; simp
 |x::xs,y::ys=>by
  unfold mrgQ
  split
  ·rw [List.length_cons,Jb (x::xs) ys]; simp; omega
  ·rw [List.length_cons,Jb xs (y::ys)]; simp; omega
termination_by xs ys=>xs.length+ys.length
theorem mrg_mem {z:Rat × Pr}:∀ (xs ys:List (Rat × Pr)),z∈mrgQ xs ys->z∈xs\/z∈ys
 |[],ys,h=>by unfold mrgQ at h; exact .inr h
 |x::xs,[],h=>by unfold mrgQ at h; exact .inl h
 |x::xs,y::ys,h=>by
  unfold mrgQ at h
  split at h
  ·rcases List.mem_cons.mp h with e|e
   ·exact .inr (e▸List.mem_cons_self ..)
   ·rcases mrg_mem (x::xs) ys e with q|q
    ·exact .inl q
    ·exact .inr (List.mem_cons_of_mem _ q)
  ·rcases List.mem_cons.mp h with e|e
   ·exact .inl (e▸List.mem_cons_self ..)
   ·rcases mrg_mem xs (y::ys) e with q|q
    ·exact .inl (List.mem_cons_of_mem _ q)
    ·exact .inr q
termination_by xs ys=>xs.length+ys.length
theorem scn_mem {z:Rat × Pr}:∀ (n:Nat) (l:List (Rat × Pr)),z∈(scnQ n l).2->z∈l
 |n,[],h=>by unfold scnQ at h; exact absurd h (List.not_mem_nil)
 |0,x::xs,h=>by unfold scnQ at h; exact absurd h (List.not_mem_nil)
 |n+1,x::xs,h=>by
  unfold scnQ at h
  split at h
  ·exact absurd h (List.not_mem_nil)
  ·rcases List.mem_cons.mp h with e|e
   ·exact e▸List.mem_cons_self ..
   ·exact List.mem_cons_of_mem _ (scn_mem n xs e)
theorem J7 (hd:d<=1):∀ (n:Nat) (b:Bq),∀ z∈zd R d n b,z.2.1<=1
 |0,_,_,h=>absurd h (List.not_mem_nil)
 |n+1,b,z,h=>by
  cases e:hitD R b d with
  |none=>rw [yH e] at h; exact absurd h (List.not_mem_nil)
  |some t=>
   rw [zg e] at h
   rcases List.mem_cons.mp h with q|q
   ·rw [q]; show (pr1D b d).1<=1; rw [pr_way hd]; exact hd
   ·exact J7 hd n _ z q
def allH (R:Rat × Rat) (b:Bq) (m:Nat):List (Rat × Pr):=mrgQ (zd R 0 (m+2) b) (zd R 1 (m+2) b)
theorem all_way {m:Nat}:∀ z∈allH R b m,z.2.1<=1:=fun z h=>by
 rcases mrg_mem _ _ h with q|q
 ·exact J7 (d:=0) (by decide) _ _ z q
 ·exact J7 (d:=1) (by decide) _ _ z q
theorem all_len {m:Nat}:(allH R b m=[]\/m+2<=(allH R b m).length)/\(allH R b m).length<=2 * m+4:=by
 have l:=Jb (zd R 0 (m+2) b) (zd R 1 (m+2) b)
 have e0:zd R 0 (m+2) b=[]\/(zd R 0 (m+2) b).length=m+2:=hits_two (R:=R) (b:=b) (d:=0) (by decide) (m+1)
 have e1:zd R 1 (m+2) b=[]\/(zd R 1 (m+2) b).length=m+2:=hits_two (R:=R) (b:=b) (d:=1) (by decide) (m+1)
 have z:∀ l:List (Rat × Pr),l=[]->l.length=0:=fun l h=>by rw [h]; rfl
 unfold allH
 rcases e0 with e0|e0<;>rcases e1 with e1|e1
 ·refine ⟨.inl ?_,by rw [l,z _ e0,z _ e1]; omega⟩
  rw [e0,e1]; unfold mrgQ; rfl
 ·have:=z _ e0; exact ⟨.inr (by omega),by omega⟩
 ·have:=z _ e1; exact ⟨.inr (by omega),by omega⟩
 ·exact ⟨.inr (by omega),by omega⟩
theorem th_is {t:Rat} {ms:List (Rat × Pr)} (hm:∀ m∈ms,m.2.1<=1) (hs:∀ d,d<=1->b.sz d < rmD R d) (g:InR R (atB t (tnsQ R b ms))):atB t (tnsQ R b ms)=thB R b ms t:=by
 obtain ⟨_,_,x0,y0,x1,y1⟩:=g
 have p0:=place_is (R:=R) (b:=b) (e:=0) (t:=t) (by decide) hm (hs 0 (by decide)) (by rw [<- YA]; exact x0) (by rw [<- ZM]; exact x1)
 have p1:=place_is (R:=R) (b:=b) (e:=1) (t:=t) (by decide) hm (hs 1 (by decide)) (by rw [<- YA]; exact y0) (by rw [<- ZM]; exact y1)
 have s0:=tns_sp (R:=R) (e:=0) (by decide) ms (b:=b) hm
 have s1:=tns_sp (R:=R) (e:=1) (by decide) ms (b:=b) hm
 have z0:=tns_sz (R:=R) (e:=0) ms b
 have z1:=tns_sz (R:=R) (e:=1) ms b
 have zm:=tns_m (R:=R) ms b
 generalize tnsQ R b ms=c at *
 obtain ⟨cx,cy,cw,ch,cu,cv,cm⟩:=c
 unfold thB
 rw [p0,p1]
 show (⟨cx+cu * t,cy+cv * t,cw,ch,cu,cv,cm⟩:Bq)=⟨cx+cu * t,cy+cv * t,b.w,b.h,spF 0 ms b.u,spF 1 ms b.v,b.m⟩
 have a1:cw=b.w:=z0
 have a2:ch=b.h:=z1
 have a3:cu=spF 0 ms b.u:=s0
 have a4:cv=spF 1 ms b.v:=s1
 have a5:cm=b.m:=zm
 rw [<- a1,<- a2,<- a3,<- a4,<- a5]
theorem run_one {m B:Nat} {wd:String} {ms:List (Rat × Pr)} {es:List Bq} {last:Rat} (r:RunP R [b] 0 m wd ms es last) (i1:In1 R b 0) (gd:GdP R [b]) (cm:CmP B R [b]) :
  wd=(scnQ m (allH R b m)).1/\ms=(scnQ m (allH R b m)).2/\last=lstT 0 ms/\es.map (atB last)=[thB R b ms last]:=by
 obtain ⟨e1,e2,e3⟩:=run_scan m i1 (Nat.le_refl _) (Nat.le_refl _) r
 have A:=run_all r gd.r1 gd.r2 (B:=B) gd.l6 gd.wt cm (gd_start gd)
 have w1:wd=(scnQ m (allH R b m)).1:=congrArg Prod.fst e1
 have w2:ms=(scnQ m (allH R b m)).2:=congrArg Prod.snd e1
 refine ⟨w1,w2,e3,?_⟩
 rw [e2]
 show [atB last (tnsQ R b ms)]=_
 congr 1
 refine th_is (fun z hz=>all_way z (scn_mem _ _ (by rw [<- w2]; exact hz))) (fun d hd=>(i1.sz d hd).2) ?_
 exact A.gd.1 _ (by rw [e2]; exact List.mem_singleton.mpr rfl)
theorem lst_last {ms:List (Rat × Pr)} {x:Rat × Pr} {now:Rat}:lstT now (ms++[x])=x.1:=by
 unfold lstT
 rw [List.foldl_append]
 rfl
end
def SdR (r q:Rat):Prop:=∃ k:Int,1<=k/\k<=9/\q=r * (k:Rat) / ((10:Int):Rat)
def PlR (r s q:Rat):Prop:=∃ k:Int,0<=k/\k<=6/\q=(r - s) * (k:Rat) / ((6:Int):Rat)
def SpR (q:Rat):Prop:=∃ n c:Int,-4<=n/\n<=4/\1<=c/\c<=3/\q=Rat.divInt n c
theorem rt_room {r:Rat} (h:Rt 42 20 r):Rt 2520 28 r:=by
 obtain ⟨n,e,l⟩:=h
 refine ⟨n * 60,?_,?_⟩
 ·rw [e,Rat.intCast_mul]
  show (n:Rat) / 42=(n:Rat) * 60 / 2520
  grind
 ·have p:(2:Nat) ^ 20=1048576:=by decide
  have p':(2:Nat) ^ 28=268435456:=by decide
  omega
theorem rt_side {r q:Rat} (h:Rt 42 20 r) (g:SdR r q):Rt 2520 28 q:=by
 obtain ⟨n,e,l⟩:=h
 obtain ⟨k,k1,k9,rfl⟩:=g
 refine ⟨n * (k * 6),?_,?_⟩
 ·rw [e,Rat.intCast_mul,Rat.intCast_mul]
  show (n:Rat) / 42 * (k:Rat) / 10=(n:Rat) * ((k:Rat) * 6) / 2520
  grind
 ·have p:(2:Nat) ^ 20=1048576:=by decide
  have p':(2:Nat) ^ 28=268435456:=by decide
  rw [Int.natAbs_mul]
  have a:(k * 6).natAbs<=54:=by omega
  have:=Nat.mul_le_mul (Nat.le_of_lt l) a
  omega
theorem Ju {r s q:Rat} (h:Rt 42 20 r) (gs:SdR r s) (g:PlR r s q):Rt 2520 28 q:=by
 obtain ⟨n,e,l⟩:=h
 obtain ⟨k,k1,k9,rfl⟩:=gs
 obtain ⟨j,j0,j6,rfl⟩:=g
 refine ⟨n * ((10 - k) * j),?_,?_⟩
 ·rw [e,Rat.intCast_mul,Rat.intCast_mul,Rat.intCast_sub]
  show ((n:Rat) / 42 - (n:Rat) / 42 * (k:Rat) / 10) * (j:Rat) / 6=(n:Rat) * ((10 - (k:Rat)) * (j:Rat)) / 2520
  grind
 ·have p:(2:Nat) ^ 20=1048576:=by decide
  have p':(2:Nat) ^ 28=268435456:=by decide
  rw [Int.natAbs_mul,Int.natAbs_mul]
  have a:=Nat.mul_le_mul (show (10 - k).natAbs<=9 by omega) (show j.natAbs<=6 by omega)
  have:=Nat.mul_le_mul (Nat.le_of_lt l) a
  omega
theorem rt_speed {q:Rat} (h:SpR q):Rt 2520 28 q:=by
 obtain ⟨n,c,n1,n2,c1,c2,rfl⟩:=h
 have p':(2:Nat) ^ 28=268435456:=by decide
 have hc:c=1\/c=2\/c=3:=by omega
 rcases hc with rfl|rfl|rfl
 ·refine ⟨n * 2520,?_,by omega⟩
  rw [Rat.divInt_eq_div,Rat.intCast_mul]
  show (n:Rat) / 1=(n:Rat) * 2520 / 2520
  grind
 ·refine ⟨n * 1260,?_,by omega⟩
  rw [Rat.divInt_eq_div,Rat.intCast_mul]
  show (n:Rat) / 2=(n:Rat) * 1260 / 2520
  grind
 ·refine ⟨n * 840,?_,by omega⟩
  rw [Rat.divInt_eq_div,Rat.intCast_mul]
  show (n:Rat) / 3=(n:Rat) * 840 / 2520
  grind
theorem Rt.f28 {x:Rat} (h:Rt 2520 28 x):FB 28 x:=h.fb (by decide) (by decide)
theorem sd_in {r q:Rat} (h:4<=r) (g:SdR r q):0 < q/\q < r:=by
 obtain ⟨k,k1,k9,rfl⟩:=g
 have a:(1:Rat)<=(k:Rat):=by have:((1:Int):Rat)<=(k:Rat):=Rat.intCast_le_intCast.mpr k1; exact this
 have c:(k:Rat)<=9:=by have:(k:Rat)<=((9:Int):Rat):=Rat.intCast_le_intCast.mpr k9; exact this
 have t:((10:Int):Rat)=10:=rfl
 rw [t]
 have p1:0 < r * (k:Rat):=Z3 (by grind) (by grind)
 have p2:0<=r * (9 - (k:Rat)):=Rat.mul_nonneg (by grind) (by grind)
 constructor<;>grind
theorem pl_in {r s q:Rat} (h:s < r) (g:PlR r s q):0<=q/\q+s<=r:=by
 obtain ⟨k,k1,k9,rfl⟩:=g
 have a:(0:Rat)<=(k:Rat):=by have:((0:Int):Rat)<=(k:Rat):=Rat.intCast_le_intCast.mpr k1; exact this
 have c:(k:Rat)<=6:=by have:(k:Rat)<=((6:Int):Rat):=Rat.intCast_le_intCast.mpr k9; exact this
 have t:((6:Int):Rat)=6:=rfl
 rw [t]
 have p1:0<=(r - s) * (k:Rat):=Rat.mul_nonneg (by grind) a
 have p2:0<=(r - s) * (6 - (k:Rat)):=Rat.mul_nonneg (by grind) (by grind)
 constructor<;>grind
def OneQ (R:Rat × Rat) (b:Bq):Prop:=RmQ R/\SdR R.1 b.w/\SdR R.2 b.h/\PlR R.1 b.w b.x/\PlR R.2 b.h b.y/\SpR b.u/\SpR b.v/\∃ m:Int,b.m=some m/\1<=m/\m<=1000
section
variable {R:Rat × Rat} {b:Bq}
theorem OneQ.rt (h:OneQ R b):RtB 2520 28 b:=by
 obtain ⟨r,w,hh,x,y,u,v,m⟩:=h
 exact ⟨Ju r.2.2.1 w x,Ju r.2.2.2 hh y,rt_side r.2.2.1 w,rt_side r.2.2.2 hh,rt_speed u,rt_speed v⟩
theorem OneQ.rm (h:OneQ R b):Rt 2520 28 R.1/\Rt 2520 28 R.2:=⟨rt_room h.1.2.2.1,rt_room h.1.2.2.2⟩
theorem OneQ.cm (h:OneQ R b):CmP 28 R [b]:=⟨2520,by decide,by decide,h.rm.1,h.rm.2,fun c hc=>by rw [List.mem_singleton.mp hc]; exact h.rt⟩
theorem OneQ.in1 (h:OneQ R b):In1 R b 0:=by
 obtain ⟨r,w,hh,x,y,u,v,m⟩:=h
 have a1:=sd_in r.1 w
 have a2:=sd_in r.2.1 hh
 have a3:=pl_in a1.2 x
 have a4:=pl_in a2.2 y
 refine ⟨fun d hd=>?_,fun d hd=>?_⟩
 ·rcases d01 hd with rfl|rfl
  ·exact a1
  ·exact a2
 ·rw [Rat.mul_zero,Rat.add_zero,Rat.add_zero]
  rcases d01 hd with rfl|rfl
  ·exact a3
  ·exact a4
theorem OneQ.gd (h:OneQ R b):GdP R [b]:=by
 obtain ⟨r,w,hh,x,y,u,v,m⟩:=h
 have a1:=sd_in r.1 w
 have a2:=sd_in r.2.1 hh
 have a3:=pl_in a1.2 x
 have a4:=pl_in a2.2 y
 refine ⟨by have:=r.1; grind,by have:=r.2.1; grind,by simp,by simp,fun c hc=>?_,fun c hc=>?_,fun i j ij jl=>absurd jl (by simp only [List.length_cons,List.length_nil]; omega)⟩
 ·rw [List.mem_singleton.mp hc]; exact m
 ·rw [List.mem_singleton.mp hc]; exact ⟨a1.1,a2.1,a3.1,a4.1,a3.2,a4.2⟩
end
theorem cut_all13 {xs:List V} {k:Nat}:cutV xs none (some (k:Int))=xs.take k:=by
 by_cases h:k<=xs.length
 ·exact cut_takeM h
 ·unfold cutV
  rw [HT.sIx_nat,show HT.sIx xs.length 0 none=0 from rfl,List.drop_zero,Nat.sub_zero]
  rw [List.take_of_length_le (by omega),List.take_of_length_le (by omega)]
theorem FQ.neg {K:PySem.W.Frag} {H:Hp} {p:Addr} {v:Rat} (h:SqT K H p [.int (0 - v.num),.int ((v.den:Nat):Int)]):FQ K H p (-v):=by
 rw [show 0 - v.num=-v.num by omega] at h
 exact h
end Kw
namespace Prf
open PySem PySem.Spec PyProof.Rows L2 Kw
def top (i:Nat):Stmt:=PySem.Challenge.pw_knockwright_k73_one_box_alone.main.body.getD i (.Pass ⟨0,0,0,0⟩)
structure Tx (K:PySem.W.Frag) (mg:Str->Option Value) (C:Nat->Addr):Prop where
 b_isinstance:mg "isinstance"=none
 b_int:mg "int"=none
 b_bool:mg "bool"=none
 b_tuple:mg "tuple"=none
 b_list:mg "list"=none
 b_abs:mg "abs"=none
 b_len:mg "len"=none
 b_divmod:mg "divmod"=none
 b_range:mg "range"=none
 b_max:mg "max"=none
 b_min:mg "min"=none
 b_all:mg "all"=none
 b_any:mg "any"=none
 b_set:mg "set"=none
 c_Plane:mg "Plane"=some (.ref (C 0))
 cl_Plane:Cls K (C 0)
 mk_Plane:makesIn K (C 0)=true
 kp_Plane:keepIn K (.ref (C 0))=true
 n_Plane_walls:yu K (C 0) "walls"
 n_Plane_goings:yu K (C 0) "goings"
 n_Plane_now:yu K (C 0) "now"
 n_Plane_gone_through:yu K (C 0) "gone_through"
 n_Plane_joints:yu K (C 0) "joints"
 n_Plane_coming:yu K (C 0) "coming"
 n_Plane_due:yu K (C 0) "due"
 k_LONG_BITS:∃ t,mg "LONG_BITS"=some (.int 4000 t)
 k_NOUGHT:∃ N,mg "NOUGHT"=some (.ref N)/\∀ H,SqT K H N [.int 0,.int 1]
 k_ACROSS:∃ t,mg "ACROSS"=some (.int 0 t)
 k_ALONG:∃ t,mg "ALONG"=some (.int 1 t)
 k_SIZES:∃ t,mg "SIZES"=some (.int 2 t)
 k_SPEEDS:∃ t,mg "SPEEDS"=some (.int 4 t)
 k_ALL:∃ N,mg "ALL"=some (.ref N)/\∀ H,SqT K H N [.int 1,.int 1]
 k_WORDS:∃ N,mg "WORDS"=some (.ref N)/\∀ H,SqT K H N ((["across","along"]:List String).map strV)
 k_NEAR_WALL:∃ t,mg "NEAR_WALL"=some (.int (-1) t)
 k_FAR_WALL:∃ t,mg "FAR_WALL"=some (.int (-2) t)
 k_MOST_WEIGHT:∃ t,mg "MOST_WEIGHT"=some (.int 1000 t)
 k_MOST_BOXES:∃ t,mg "MOST_BOXES"=some (.int 6 t)
 k_MOST_MOMENTS:∃ t,mg "MOST_MOMENTS"=some (.int 40 t)
section
variable {P:Program} {w:World} {K:PySem.W.Frag} {mg:Str->Option Value} {base:Heap} {C:Nat->Addr}
theorem sc_is_whole:FnScope ["thing"] ["thing"] (zD (top 9)):=⟨rfl,rfl,rfl,by decide+kernel,rfl,by decide+kernel,by decide+kernel⟩
theorem ok_is_whole (D:Df K mg "is_whole" (top 9) ["thing"]) (T:Tx K mg C):Fn P w K mg base 1 "is_whole" ["thing"] (Yn K):=by
 refine D.ok0 sc_is_whole (fun vs H Q E h=>?_) (fun f cdv A outer s H vs Q E hr h=>?_)
 ·obtain ⟨x,t,b1,b2,rfl,_⟩:=h
  rfl
 obtain ⟨x,t,b1,b2,rfl,ty,k1,k2,q⟩:=h
 refine ⟨_,(zF (zM (yd (zV jm (by rfl) T.b_isinstance PyProof.Rows.Boot.«isinstance» (zA (pv 0) (zA (YM (by rfl) T.b_int PyProof.Rows.Boot.«int») zB))) (yR (pe_not (zV jm (by rfl) T.b_isinstance PyProof.Rows.Boot.«isinstance» (zA (pv 0) (zA (YM (by rfl) T.b_bool PyProof.Rows.Boot.«bool») zB)))))))),?_⟩
 refine ⟨_,rfl,x,_,b1,rfl,.inl ⟨_,rfl⟩,⟨t,ty,k1⟩,b1,rfl,?_⟩
 cases b1 with
 |false=>exact iteF q
 |true=>exact iteT ⟨_,rfl,x,_,b2,rfl,.inl ⟨_,rfl⟩,⟨t,ty,k2⟩,b2,rfl,q⟩
theorem zo:FnScope ["one","other","great","small","steps","rest"] ["one","other"] (zD (top 11)):=⟨rfl,rfl,rfl,by decide+kernel,rfl,by decide+kernel,by decide+kernel⟩
theorem ok_common_divisor (D:Df K mg "common_divisor" (top 11) ["one","other"]) (T:Tx K mg C):Fn P w K mg base 1 "common_divisor" ["one","other"] Jn:=by
 refine D.ok0 zo (fun vs H Q E h=>?_) (fun f cdv A outer s H vs Q E hr h=>?_)
 ·obtain ⟨a,b,rfl,_⟩:=h
  rfl
 obtain ⟨a,b,rfl,hb,q⟩:=h
 refine ⟨_,(zE (zN (i:=2) zo.nd rfl (Or.inl rfl) (zV Zq (by rfl) T.b_abs PyProof.Rows.Boot.«abs» (zA (pv 0) zB)))
   (zE (zN (i:=3) zo.nd rfl (Or.inl rfl) (zV Zq (by rfl) T.b_abs PyProof.Rows.Boot.«abs» (zA (pv 1) zB)))
   (zE (Zv PassesOwn.never (zQ op_gt (pe_bm0 PySem.F.plainAttrs_int PySem.F.slot_int_bit_length PySem.F.type_int_bit_length mt_bits (zV (call_min2 rfl) (by rfl) T.b_min PyProof.Rows.Boot.«min» (zA (pv 2) (zA (pv 3) zB)))) (zW (by rfl) T.k_LONG_BITS) (zS _)) pss_never)
   (zE (Zv PassesOwn.never (zQ op_gt (pv 3) zC (zS _)) (zE (zN (i:=5) zo.nd rfl (Or.inl rfl) (zO op_mod (pv 2) (pv 3)))
   (zE (zN (i:=2) zo.nd rfl (Or.inl rfl) (pv 3))
   (zF (zN (i:=3) zo.nd rfl (Or.inl rfl) (pv 5))))))
   (zF (zM (pv 2))))))),?_⟩
 refine ⟨_,rfl,_,rfl,_,rfl,_,rfl,?_⟩
 refine ⟨fun m σ' H'=>∃ r1 r2:Option V,σ'=[some (.int a),some (.int b),some (.int (if a < 0 then -a else a)),some (.int (if b < 0 then -b else b)),r1,r2]/\H'=H,⟨0,_,_,rfl,rfl⟩,?_⟩
 rintro m σ' H' ⟨r1,r2,rfl,rfl⟩
 refine ⟨_,rfl,_,rfl,_,_,rfl,rfl,_,rfl,rfl,_,_,rfl,rfl,_,rfl,?_⟩
 refine zb (fun c=>absurd c (short_min hb)) (fun _=>?_)
 refine ⟨fun m σ' H2=>∃ g s:Int,∃ r1 r2:Option V,σ'=[some (.int a),some (.int b),some (.int g),some (.int s),r1,r2]/\H2=H'/\0<=g/\0<=s/\m=s.toNat/\Int.gcd g s=Int.gcd a b,⟨_,_,_,_,_,rfl,rfl,abs_nn a,abs_nn b,rfl,gcd_abs a b⟩,?_⟩
 rintro m σ' H2 ⟨g,s,r1,r2,rfl,rfl,hg,hs,rfl,e⟩
 refine ⟨_,rfl,_,_,rfl,rfl,_,rfl,?_⟩
 refine zb (fun c=>?_) (fun c=>?_)
 ·refine ⟨_,fun _ _ n=>n,?_⟩
  refine ⟨_,rfl,_,rfl,_,_,rfl,rfl,c,_,rfl,_,rfl,?_⟩
  have l:=Int.emod_lt_of_pos g c
  have l0:=Int.emod_nonneg g (show s≠0 by omega)
  exact ⟨_,by omega,s,g % s,_,_,rfl,rfl,by omega,l0,rfl,(gcd_step g s hg c).trans e⟩
 ·refine ⟨_,rfl,?_⟩
  have s0:s=0:=by omega
  subst s0
  have z:=gcd_end g hg
  rw [e] at z
  rw [<- z]
  exact q
def JQ (K:PySem.W.Frag):Sp:=fun vs H Q _=>∃ (a:Int) (b:Int),vs=[.int a,.int b]/\Bd 4000 b/\b≠0/\(∀ (p_r:Addr) (H1:Hp),Same H H1->FQ K H1 p_r (Rat.divInt a b)->Q (.ref p_r) H1)
theorem Z0:FnScope ["top","bottom","divisor"] ["top","bottom"] (zD (top 13)):=⟨rfl,rfl,rfl,by decide+kernel,rfl,by decide+kernel,by decide+kernel⟩
theorem ok_fraction (D:Df K mg "fraction" (top 13) ["top","bottom"]) (T:Tx K mg C) (F_is_whole:Fn P w K mg base 1 "is_whole" ["thing"] (Yn K)) (F_common_divisor:Fn P w K mg base 1 "common_divisor" ["one","other"] Jn) :
  Fn P w K mg base 2 "fraction" ["top","bottom"] (JQ K):=by
 refine D.ok0 Z0 (fun vs H Q E h=>?_) (fun f cdv A outer s H vs Q E hr h=>?_)
 ·obtain ⟨a,b,rfl,_⟩:=h
  rfl
 obtain ⟨a,b,rfl,hb,c,hq⟩:=h
 refine ⟨_,(zE (zh (jM (yv (zn (zL F_is_whole (by decide) hr (by rfl) zG (zA (pv 0) zB)) (fun _=>rfl))) (ym (yv (zn (zL F_is_whole (by decide) hr (by rfl) zG (zA (pv 1) zB)) (fun _=>rfl))))).pt (zF jI) zU)
   (zE (zh (zQ ZB (pv 1) zC (zS _)) (zF jI) zU)
   (zE (zN (i:=2) Z0.nd rfl (Or.inl rfl) (zL F_common_divisor (by decide) hr (by rfl) zG (zA (pv 0) (zA (pv 1) zB))))
   (zE (zh (zQ Yh (pv 1) zC (zS _)) (zF (zN (i:=2) Z0.nd rfl (Or.inl rfl) (YS ZO (pv 2)))) zU)
   (zF (zM (zR (zA (zO z7 (pv 0) (pv 2)) (zA (zO z7 (pv 1) (pv 2)) zB))))))))),?_⟩
 refine ⟨_,rfl,_,_,true,false,rfl,.int a,yr,yY,_,rfl,?_⟩
 refine iteF ⟨_,rfl,_,_,true,false,rfl,.int b,yr,yY,_,rfl,?_⟩
 refine iteF ⟨_,rfl,rfl,_,rfl,?_⟩
 refine jD (fun z=>absurd z c) (fun _=>?_)
 refine ⟨_,rfl,_,rfl,a,b,rfl,hb,?_⟩
 have hd:(if b < 0 then -((Int.gcd a b:Nat):Int) else ((Int.gcd a b:Nat):Int))=dv a b:=rfl
 have lg:=(bd_dv (t:=a) c (hb.mono (n:=9000) (by decide))).log
 refine ⟨_,rfl,_,_,rfl,rfl,_,rfl,?_⟩
 refine zb (fun n=>?_) (fun n=>?_)
 ·rw [if_pos n] at hd
  refine ⟨_,rfl,_,rfl,?_⟩
  dsimp only
  rw [hd]
  refine ⟨_,rfl,_,rfl,_,_,rfl,rfl,⟨ZX c,lg⟩,_,rfl,_,rfl,_,_,rfl,rfl,⟨ZX c,lg⟩,by show 2<=sizeLine; decide,?_⟩
  exact JC fun p H' sm hp=>hq p H' sm (FQ.fit c (SqT.of hp))
 ·rw [if_neg n] at hd
  rw [hd]
  refine ⟨_,rfl,_,rfl,_,_,rfl,rfl,⟨ZX c,lg⟩,_,rfl,_,rfl,_,_,rfl,rfl,⟨ZX c,lg⟩,by show 2<=sizeLine; decide,?_⟩
  exact JC fun p H' sm hp=>hq p H' sm (FQ.fit c (SqT.of hp))
def Z9 (K:PySem.W.Frag):Sp:=fun vs H Q _=>∃ (p_x:Addr) (x:Rat) (p_y:Addr) (y:Rat),vs=[.ref p_x,.ref p_y]/\FQ K H p_x x/\FB 8900 x/\FQ K H p_y y/\FB 4000 y/\(∀ (p_r:Addr) (H1:Hp),Same H H1->FQ K H1 p_r (x+y)->Q (.ref p_r) H1)
theorem Jh:FnScope ["one","other","shared","top","divisor"] ["one","other"] (zD (top 14)):=⟨rfl,rfl,rfl,by decide+kernel,rfl,by decide+kernel,by decide+kernel⟩
theorem ok_plus (D:Df K mg "plus" (top 14) ["one","other"]) (T:Tx K mg C) (F_common_divisor:Fn P w K mg base 1 "common_divisor" ["one","other"] Jn):Fn P w K mg base 2 "plus" ["one","other"] (Z9 K):=by
 refine D.ok0 Jh (fun vs H Q E h=>?_) (fun f cdv A outer s H vs Q E hr h=>?_)
 ·obtain ⟨p,x,q,y,rfl,_⟩:=h
  rfl
 obtain ⟨p,x,q,y,rfl,hp,⟨ha,hb⟩,hq,⟨hc,hd⟩,k⟩:=h
 refine ⟨_,(zE (zN (i:=2) Jh.nd rfl (Or.inl rfl) (zL F_common_divisor (by decide) hr (by rfl) zG (zA (zH ix_tup (pv 0) zC (fun _ _=>rfl)) (zA (zH ix_tup (pv 1) zC (fun _ _=>rfl)) zB))))
   (zE (zN (i:=3) Jh.nd rfl (Or.inl rfl) (zO zj (zO zc (zH ix_tup (pv 0) zC (fun _ _=>rfl)) (zO z7 (zH ix_tup (pv 1) zC (fun _ _=>rfl)) (pv 2))) (zO zc (zH ix_tup (pv 1) zC (fun _ _=>rfl)) (zO z7 (zH ix_tup (pv 0) zC (fun _ _=>rfl)) (pv 2)))))
   (zE (zN (i:=4) Jh.nd rfl (Or.inl rfl) (zL F_common_divisor (by decide) hr (by rfl) zG (zA (pv 3) (zA (pv 2) zB))))
   (zF (zM (zR (zA (zO z7 (pv 3) (pv 4)) (zA (zO zc (zO z7 (zH ix_tup (pv 0) zC (fun _ _=>rfl)) (pv 2)) (zO z7 (zH ix_tup (pv 1) zC (fun _ _=>rfl)) (pv 4))) zB)))))))),?_⟩
 refine ⟨_,rfl,p,_,_,_,rfl,rfl,hp,rfl,_,rfl,q,_,_,_,rfl,rfl,hq,rfl,_,_,rfl,hd,?_⟩
 have g0:=gpos (a:=((x.den:Nat):Int)) (q_ne y)
 have bg:=Jc (a:=((x.den:Nat):Int)) (q_ne y) hd
 have dg1:(((Int.gcd ((x.den:Nat):Int) ((y.den:Nat):Int):Nat):Int)) ∣ ((x.den:Nat):Int):=Int.gcd_dvd_left ..
 have dg2:(((Int.gcd ((x.den:Nat):Int) ((y.den:Nat):Int):Nat):Int)) ∣ ((y.den:Nat):Int):=Int.gcd_dvd_right ..
 generalize hg:((Int.gcd ((x.den:Nat):Int) ((y.den:Nat):Int):Nat):Int)=g at g0 bg dg1 dg2 ⊢
 have g1:g≠0:=by omega
 have lg:=(bg.mono (n:=9000) (by decide)).log
 have b1:=ZR hd dg2 g1
 have b2:=ZR hb dg1 g1
 refine ⟨_,rfl,p,_,_,_,rfl,rfl,hp,rfl,_,rfl,q,_,_,_,rfl,rfl,hq,rfl,_,rfl,_,_,rfl,rfl,⟨g1,lg⟩,_,_,rfl,rfl,ha.ok b1 (by decide),_,rfl,q,_,_,_,rfl,rfl,hq,rfl,_,rfl,p,_,_,_,rfl,rfl,hp,rfl,_,rfl,_,_,rfl,rfl,⟨g1,lg⟩,_,_,rfl,rfl,hc.ok b2 (by decide),_,_,rfl,rfl,?_⟩
 dsimp only
 have bt:=(ha.mul b1).add (hc.mul b2)
 generalize ht:x.num * ((y.den:Nat):Int).fdiv g+y.num * ((x.den:Nat):Int).fdiv g=t at bt ⊢
 refine ⟨_,rfl,_,rfl,_,_,rfl,bg,?_⟩
 have h0:=gpos (a:=t) g1
 have bh:=Jc (a:=t) g1 bg
 have dh:((Int.gcd t g:Nat):Int) ∣ g:=Int.gcd_dvd_right ..
 generalize hh:((Int.gcd t g:Nat):Int)=h at h0 bh dh ⊢
 have h1:h≠0:=by omega
 have lh:=(bh.mono (n:=9000) (by decide)).log
 have b3:=ZR hd (Int.dvd_trans dh dg2) h1
 refine ⟨_,rfl,_,rfl,_,_,rfl,rfl,⟨h1,lh⟩,_,rfl,p,_,_,_,rfl,rfl,hp,rfl,_,rfl,_,_,rfl,rfl,⟨g1,lg⟩,_,rfl,q,_,_,_,rfl,rfl,hq,rfl,_,rfl,_,_,rfl,rfl,⟨h1,lh⟩,_,_,rfl,rfl,b2.ok b3 (by decide),by show 2<=sizeLine; decide,?_⟩
 refine JC fun r H1 sm hr1=>k r H1 sm ?_
 obtain ⟨e1,e2⟩:=q_plus x y g t h hg.symm ht.symm hh.symm
 have z:=SqT.of (K:=K) hr1
 dsimp only at z
 rw [e1,e2] at z
 exact z
def Zg (K:PySem.W.Frag):Sp:=fun vs H Q _=>∃ (p_x:Addr) (x:Rat) (p_y:Addr) (y:Rat),vs=[.ref p_x,.ref p_y]/\FQ K H p_x x/\FB 8900 x/\FQ K H p_y y/\FB 4000 y/\(∀ (p_r:Addr) (H1:Hp),Same H H1->FQ K H1 p_r (x - y)->Q (.ref p_r) H1)
theorem sc_minus:FnScope ["one","other"] ["one","other"] (zD (top 15)):=⟨rfl,rfl,rfl,by decide+kernel,rfl,by decide+kernel,by decide+kernel⟩
theorem ok_minus (D:Df K mg "minus" (top 15) ["one","other"]) (T:Tx K mg C) (F_plus:Fn P w K mg base 2 "plus" ["one","other"] (Z9 K)):Fn P w K mg base 3 "minus" ["one","other"] (Zg K):=by
 refine D.ok0 sc_minus (fun vs H Q E h=>?_) (fun f cdv A outer s H vs Q E hr h=>?_)
 ·obtain ⟨p_x,x,p_y,y,rfl,_⟩:=h
  rfl
 obtain ⟨p_x,x,p_y,y,rfl,g_x,d_x,g_y,d_y,k0⟩:=h
 refine ⟨_,(zF (zM (zL F_plus (by decide) hr (by rfl) zG (zA (pv 0) (zA (zR (zA (YS ZO (zH ix_tup (pv 1) zC (fun _ _=>rfl))) (zA (zH ix_tup (pv 1) zC (fun _ _=>rfl)) zB))) zB))))),?_⟩
 refine ⟨_,rfl,_,rfl,p_y,_,_,_,rfl,rfl,g_y,rfl,_,rfl,_,rfl,p_y,_,_,_,rfl,rfl,g_y,rfl,by show 2<=sizeLine; decide,?_⟩
 intro p1 n1
 obtain ⟨H1,q1,s1,e1⟩:=newO n1 (.tup [.int ((-(y).num)),.int ((((y).den:Nat):Int))])
 rw [q1]
 clear q1
 have h1:=SqT.of (K:=K) e1
 have g1:FQ K H1 p1 (-(y)):=by exact FQ.ofNeg h1 (by omega)
 replace g_x:=(Kw.Same.tup s1 g_x)
 refine ⟨_,_,_,_,rfl,g_x,(FB.mono d_x (by decide)),g1,(FB.mono (FB.neg d_y) (by decide)),fun p_r2 H2 s2 g_r2=>?_⟩
 have d_r2:FB 12901 (x+((-(y)))):=(FB.mono (FB.add d_x (FB.neg d_y)) (by decide))
 have e3:((x+((-(y)))):Rat)=x - y:=by grind
 exact k0 _ _ (s1.trans s2) (FQ.cast g_r2 e3)
def Yw (K:PySem.W.Frag):Sp:=fun vs H Q _=>∃ (p_x:Addr) (x:Rat) (p_y:Addr) (y:Rat),vs=[.ref p_x,.ref p_y]/\FQ K H p_x x/\FB 4000 x/\FQ K H p_y y/\FB 4000 y/\(∀ (p_r:Addr) (H1:Hp),Same H H1->FQ K H1 p_r (x * y)->Q (.ref p_r) H1)
theorem Jp:FnScope ["one","other","first","second"] ["one","other"] (zD (top 16)):=⟨rfl,rfl,rfl,by decide+kernel,rfl,by decide+kernel,by decide+kernel⟩
theorem ok_times (D:Df K mg "times" (top 16) ["one","other"]) (T:Tx K mg C) (F_common_divisor:Fn P w K mg base 1 "common_divisor" ["one","other"] Jn):Fn P w K mg base 2 "times" ["one","other"] (Yw K):=by
 refine D.ok0 Jp (fun vs H Q E h=>?_) (fun f cdv A outer s H vs Q E hr h=>?_)
 ·obtain ⟨p,x,q,y,rfl,_⟩:=h
  rfl
 obtain ⟨p,x,q,y,rfl,hp,⟨ha,hb⟩,hq,⟨hc,hd⟩,k⟩:=h
 refine ⟨_,(zE (zN (i:=2) Jp.nd rfl (Or.inl rfl) (zL F_common_divisor (by decide) hr (by rfl) zG (zA (zH ix_tup (pv 0) zC (fun _ _=>rfl)) (zA (zH ix_tup (pv 1) zC (fun _ _=>rfl)) zB))))
   (zE (zN (i:=3) Jp.nd rfl (Or.inl rfl) (zL F_common_divisor (by decide) hr (by rfl) zG (zA (zH ix_tup (pv 1) zC (fun _ _=>rfl)) (zA (zH ix_tup (pv 0) zC (fun _ _=>rfl)) zB))))
   (zF (zM (zR (zA (zO zc (zO z7 (zH ix_tup (pv 0) zC (fun _ _=>rfl)) (pv 2)) (zO z7 (zH ix_tup (pv 1) zC (fun _ _=>rfl)) (pv 3))) (zA (zO zc (zO z7 (zH ix_tup (pv 0) zC (fun _ _=>rfl)) (pv 3)) (zO z7 (zH ix_tup (pv 1) zC (fun _ _=>rfl)) (pv 2))) zB))))))),?_⟩
 refine ⟨_,rfl,p,_,_,_,rfl,rfl,hp,rfl,_,rfl,q,_,_,_,rfl,rfl,hq,rfl,_,_,rfl,hd,?_⟩
 have f0:=gpos (a:=x.num) (q_ne y)
 have bf:=Jc (a:=x.num) (q_ne y) hd
 have df1:((Int.gcd x.num ((y.den:Nat):Int):Nat):Int) ∣ x.num:=Int.gcd_dvd_left ..
 have df2:((Int.gcd x.num ((y.den:Nat):Int):Nat):Int) ∣ ((y.den:Nat):Int):=Int.gcd_dvd_right ..
 generalize hf:((Int.gcd x.num ((y.den:Nat):Int):Nat):Int)=f1 at f0 bf df1 df2 ⊢
 refine ⟨_,rfl,q,_,_,_,rfl,rfl,hq,rfl,_,rfl,p,_,_,_,rfl,rfl,hp,rfl,_,_,rfl,hb,?_⟩
 have s0:=gpos (a:=y.num) (q_ne x)
 have bs:=Jc (a:=y.num) (q_ne x) hb
 have ds1:((Int.gcd y.num ((x.den:Nat):Int):Nat):Int) ∣ y.num:=Int.gcd_dvd_left ..
 have ds2:((Int.gcd y.num ((x.den:Nat):Int):Nat):Int) ∣ ((x.den:Nat):Int):=Int.gcd_dvd_right ..
 generalize hs:((Int.gcd y.num ((x.den:Nat):Int):Nat):Int)=s1 at s0 bs ds1 ds2 ⊢
 have f1':f1≠0:=by omega
 have s1':s1≠0:=by omega
 have lf:=(bf.mono (n:=9000) (by decide)).log
 have ls:=(bs.mono (n:=9000) (by decide)).log
 refine ⟨_,rfl,p,_,_,_,rfl,rfl,hp,rfl,_,rfl,_,_,rfl,rfl,⟨f1',lf⟩,_,rfl,q,_,_,_,rfl,rfl,hq,rfl,_,rfl,_,_,rfl,rfl,⟨s1',ls⟩,_,_,rfl,rfl,(ZR ha df1 f1').ok (ZR hc ds1 s1') (by decide),_,rfl,p,_,_,_,rfl,rfl,hp,rfl,_,rfl,_,_,rfl,rfl,⟨s1',ls⟩,_,rfl,q,_,_,_,rfl,rfl,hq,rfl,_,rfl,_,_,rfl,rfl,⟨f1',lf⟩,_,_,rfl,rfl,(ZR hb ds2 s1').ok (ZR hd df2 f1') (by decide),by show 2<=sizeLine; decide,?_⟩
 refine JC fun r H1 sm hr1=>k r H1 sm ?_
 obtain ⟨e1,e2⟩:=q_times x y f1 s1 hf.symm hs.symm
 have z:=SqT.of (K:=K) hr1
 dsimp only at z
 rw [e1,e2] at z
 exact z
def sp_over (K:PySem.W.Frag):Sp:=fun vs H Q _=>∃ (p_x:Addr) (x:Rat) (p_y:Addr) (y:Rat),vs=[.ref p_x,.ref p_y]/\FQ K H p_x x/\FB 4000 x/\FQ K H p_y y/\FB 4000 y/\y≠0/\(∀ (p_r:Addr) (H1:Hp),Same H H1->FQ K H1 p_r (x / y)->Q (.ref p_r) H1)
theorem sc_over:FnScope ["one","other","flipped"] ["one","other"] (zD (top 17)):=⟨rfl,rfl,rfl,by decide+kernel,rfl,by decide+kernel,by decide+kernel⟩
theorem ok_over (D:Df K mg "over" (top 17) ["one","other"]) (T:Tx K mg C) (F_times:Fn P w K mg base 2 "times" ["one","other"] (Yw K)):Fn P w K mg base 3 "over" ["one","other"] (sp_over K):=by
 refine D.ok0 sc_over (fun vs H Q E h=>?_) (fun f cdv A outer s H vs Q E hr h=>?_)
 ·obtain ⟨p,x,q,y,rfl,_⟩:=h
  rfl
 obtain ⟨p,x,q,y,rfl,hp,dx,hq,dy,y0,k⟩:=h
 refine ⟨_,(zE (zh (zQ ZB (zH ix_tup (pv 1) zC (fun _ _=>rfl)) zC (zS _)) (zF jI) zU)
   (zE (zN (i:=2) sc_over.nd rfl (Or.inl rfl) (J6 (zQ op_gt (zH ix_tup (pv 1) zC (fun _ _=>rfl)) zC (zS _)) (zR (zA (zH ix_tup (pv 1) zC (fun _ _=>rfl)) (zA (zH ix_tup (pv 1) zC (fun _ _=>rfl)) zB))) (zR (zA (YS ZO (zH ix_tup (pv 1) zC (fun _ _=>rfl))) (zA (YS ZO (zH ix_tup (pv 1) zC (fun _ _=>rfl))) zB)))))
   (zF (zM (zL F_times (by decide) hr (by rfl) zG (zA (pv 0) (zA (pv 2) zB))))))),?_⟩
 have n0:=Zp y0
 refine ⟨_,rfl,q,_,_,_,rfl,rfl,hq,rfl,rfl,_,rfl,?_⟩
 refine jD (fun z=>absurd z n0) (fun _=>?_)
 refine ⟨_,rfl,q,_,_,_,rfl,rfl,hq,rfl,_,_,rfl,rfl,_,rfl,?_⟩
 refine zb (fun c=>?_) (fun c=>?_)
 ·refine ⟨_,rfl,q,_,_,_,rfl,rfl,hq,rfl,_,rfl,q,_,_,_,rfl,rfl,hq,rfl,by show 2<=sizeLine; decide,?_⟩
  intro p1 n1
  obtain ⟨H1,q1,s1,e1⟩:=newO n1 (.tup [.int ((y.den:Nat):Int),.int y.num])
  rw [q1]
  clear q1
  have g1:FQ K H1 p1 y⁻¹:=by
   have z:=SqT.of (K:=K) e1
   rw [<- (q_invp c).1,<- (q_invp c).2] at z
   exact z
  refine ⟨_,rfl,_,rfl,p,x,p1,y⁻¹,rfl,Kw.Same.tup s1 hp,dx,g1,FB.inv dy y0,fun r H3 s3 g3=>?_⟩
  exact k r H3 (s1.trans s3) (g3.cast (Rat.div_def x y).symm)
 ·have c':y.num < 0:=by omega
  refine ⟨_,rfl,q,_,_,_,rfl,rfl,hq,rfl,_,rfl,_,rfl,q,_,_,_,rfl,rfl,hq,rfl,_,rfl,by show 2<=sizeLine; decide,?_⟩
  intro p2 n2
  obtain ⟨H2,q2,s2,e2⟩:=newO n2 (.tup [.int (-((y.den:Nat):Int)),.int (-y.num)])
  rw [q2]
  clear q2
  have g1:FQ K H2 p2 y⁻¹:=by
   have z:=SqT.of (K:=K) e2
   rw [<- (q_invn c').1,<- (q_invn c').2] at z
   exact z
  refine ⟨_,rfl,_,rfl,p,x,p2,y⁻¹,rfl,Kw.Same.tup s2 hp,dx,g1,FB.inv dy y0,fun r H3 s3 g3=>?_⟩
  exact k r H3 (s2.trans s3) (g3.cast (Rat.div_def x y).symm)
def Zy (K:PySem.W.Frag):Sp:=fun vs H Q _=>∃ (p_x:Addr) (x:Rat) (p_y:Addr) (y:Rat),vs=[.ref p_x,.ref p_y]/\FQ K H p_x x/\FB 8900 x/\FQ K H p_y y/\FB 8900 y/\(∀ (H1:Hp),Same H H1->Q (.bl (decide (x < y))) H1)
theorem sc_under:FnScope ["one","other"] ["one","other"] (zD (top 18)):=⟨rfl,rfl,rfl,by decide+kernel,rfl,by decide+kernel,by decide+kernel⟩
theorem ok_under (D:Df K mg "under" (top 18) ["one","other"]) (T:Tx K mg C):Fn P w K mg base 1 "under" ["one","other"] (Zy K):=by
 refine D.ok0 sc_under (fun vs H Q E h=>?_) (fun f cdv A outer s H vs Q E hr h=>?_)
 ·obtain ⟨p_x,x,p_y,y,rfl,_⟩:=h
  rfl
 obtain ⟨p_x,x,p_y,y,rfl,g_x,d_x,g_y,d_y,k0⟩:=h
 refine ⟨_,(zF (zM (yg Yh (zO zc (zH ix_tup (pv 0) zC (fun _ _=>rfl)) (zH ix_tup (pv 1) zC (fun _ _=>rfl))) (zO zc (zH ix_tup (pv 1) zC (fun _ _=>rfl)) (zH ix_tup (pv 0) zC (fun _ _=>rfl))) (zS _)))),?_⟩
 refine ⟨_,rfl,p_x,_,_,_,rfl,rfl,g_x,rfl,_,rfl,p_y,_,_,_,rfl,rfl,g_y,rfl,_,_,rfl,rfl,(d_x.1.ok d_y.2 (by decide)),_,rfl,p_y,_,_,_,rfl,rfl,g_y,rfl,_,rfl,p_x,_,_,_,rfl,rfl,g_x,rfl,_,_,rfl,rfl,(d_y.1.ok d_x.2 (by decide)),_,_,rfl,rfl,?_⟩
 try dsimp only
 rw [show decide (((x).num * (((y).den:Nat):Int)) < ((y).num * (((x).den:Nat):Int)))=decide (x < y) from decide_eq_decide.mpr (by exact (q_lt x y).symm)]
 exact k0 _ (Same.refl _)
theorem jA {H H1:Hp} {a:Addr} (s:Same H H1) (n:H1 a=none):H a=none:=by
 cases e:H a with
 |none=>rfl
 |some o=>have:=s _ _ e; rw [n] at this; cases this
def jH (K:PySem.W.Frag):Sp:=fun vs H Q _=>∃ (z:V) (b:Bq) (d:Nat),vs=[z,.int (d:Int)]/\BqH K 5990 H z b/\d<=1/\∀ (r:Addr) (H1:Hp),Same H H1->FQ K H1 r (b.far d)->FB 7981 (b.far d)->Q (.ref r) H1
theorem sc_far_side:FnScope ["box","way"] ["box","way"] (zD (top 39)):=⟨rfl,rfl,rfl,by decide+kernel,rfl,by decide+kernel,by decide+kernel⟩
theorem ok_far_side (D:Df K mg "far_side" (top 39) ["box","way"]) (T:Tx K mg C) (F_plus:Fn P w K mg base 2 "plus" ["one","other"] (Z9 K)):Fn P w K mg base 3 "far_side" ["box","way"] (jH K):=by
 refine D.ok0 sc_far_side (fun vs H Q E h=>?_) (fun f cdv A outer s H vs Q E hr h=>?_)
 ·obtain ⟨z,b,d,rfl,_⟩:=h
  rfl
 obtain ⟨z,b,d,rfl,⟨p,a0,a1,a2,a3,a4,a5,rfl,hp,⟨g0,g1,g2,g3,g4,g5⟩,⟨d0,d1,d2,d3,d4,d5⟩,wt⟩,hd,q⟩:=h
 refine ⟨_,(zF (zM (zL F_plus (by decide) hr (by rfl) zG (zA (zH ix_tup (pv 0) (pv 1) (fun _ _=>rfl)) (zA (zH ix_tup (pv 0) (zO zj (zW (by rfl) T.k_SIZES) (pv 1)) (fun _ _=>rfl)) zB))))),?_⟩
 rcases d01 hd with rfl|rfl
 ·exact ⟨_,rfl,_,rfl,p,_,_,_,rfl,rfl,hp,rfl,_,rfl,_,rfl,_,_,rfl,rfl,p,_,_,_,rfl,rfl,hp,rfl,_,_,_,_,rfl,g0,d0.mono (by decide),g2,d2.mono (by decide),fun r H1 s1 g=>q r H1 s1 g ((FB.add d0 d2).mono (by decide))⟩
 ·exact ⟨_,rfl,_,rfl,p,_,_,_,rfl,rfl,hp,rfl,_,rfl,_,rfl,_,_,rfl,rfl,p,_,_,_,rfl,rfl,hp,rfl,_,_,_,_,rfl,g1,d1.mono (by decide),g3,d3.mono (by decide),fun r H1 s1 g=>q r H1 s1 g ((FB.add d1 d3).mono (by decide))⟩
def yP (K:PySem.W.Frag):Sp:=fun vs H Q _=>∃ (z y:V) (a b:Bq) (d:Nat),vs=[z,y,.int (d:Int)]/\BqH K 5990 H z a/\BqH K 5990 H y b/\d<=1/\∀ (H1:Hp),Same H H1->Q (.bl (hicB a b d)) H1
theorem sc_have_in_common:FnScope ["one","other","way"] ["one","other","way"] (zD (top 41)):=⟨rfl,rfl,rfl,by decide+kernel,rfl,by decide+kernel,by decide+kernel⟩
theorem ok_have_in_common (D:Df K mg "have_in_common" (top 41) ["one","other","way"]) (T:Tx K mg C) (F_under:Fn P w K mg base 1 "under" ["one","other"] (Zy K)) (F_far_side:Fn P w K mg base 3 "far_side" ["box","way"] (jH K)):Fn P w K mg base 4 "have_in_common" ["one","other","way"] (yP K):=by
 refine D.ok0 sc_have_in_common (fun vs H Q E h=>?_) (fun f cdv A outer s H vs Q E hr h=>?_)
 ·obtain ⟨z,y,a,b,d,rfl,_⟩:=h
  rfl
 obtain ⟨z,y,a,b,d,rfl,hz,hy,hd,q⟩:=h
 refine ⟨_,(zF (zM (yd (zL F_under (by decide) hr (by rfl) zG (zA (zH ix_tup (pv 0) (pv 2) (fun _ _=>rfl)) (zA (zL F_far_side (by decide) hr (by rfl) zG (zA (pv 1) (zA (pv 2) zB))) zB))) (yR (zL F_under (by decide) hr (by rfl) zG (zA (zH ix_tup (pv 1) (pv 2) (fun _ _=>rfl)) (zA (zL F_far_side (by decide) hr (by rfl) zG (zA (pv 0) (zA (pv 2) zB))) zB))))))),?_⟩
 obtain ⟨px,a0x,a1x,a2x,a3x,a4x,a5x,rfl,hpx,⟨g0x,g1x,g2x,g3x,g4x,g5x⟩,⟨d0x,d1x,d2x,d3x,d4x,d5x⟩,wtx⟩:=id hz
 obtain ⟨py,a0y,a1y,a2y,a3y,a4y,a5y,rfl,hpy,⟨g0y,g1y,g2y,g3y,g4y,g5y⟩,⟨d0y,d1y,d2y,d3y,d4y,d5y⟩,wty⟩:=id hy
 obtain ⟨ax,bx,e1,k1,f1,e2,k2,f2⟩:∃ ax bx:Addr,atI [V.ref a0x,.ref a1x,.ref a2x,.ref a3x,.ref a4x,.ref a5x,wV a.m] (d:Int)=some (.ref ax)/\FQ K H ax (a.pl d)/\FB 5990 (a.pl d)/\atI [V.ref a0y,.ref a1y,.ref a2y,.ref a3y,.ref a4y,.ref a5y,wV b.m] (d:Int)=some (.ref bx)/\FQ K H bx (b.pl d)/\FB 5990 (b.pl d):=by
  rcases d01 hd with rfl|rfl
  ·exact ⟨a0x,a0y,rfl,g0x,d0x,rfl,g0y,d0y⟩
  ·exact ⟨a1x,a1y,rfl,g1x,d1x,rfl,g1y,d1y⟩
 refine ⟨_,rfl,_,rfl,px,_,_,_,rfl,rfl,hpx,e1,_,rfl,_,rfl,_,b,d,rfl,hy,hd,fun r1 H1 s1 h1 f1'=>?_⟩
 refine ⟨_,_,_,_,rfl,Kw.Same.tup s1 k1,f1.mono (by decide),h1,f1'.mono (by decide),fun H2 s2=>⟨_,rfl,?_⟩⟩
 have s12:=s1.trans s2
 refine zb (fun c=>?_) (fun c=>?_)
 ·refine ⟨_,rfl,_,rfl,py,_,_,_,rfl,rfl,Kw.Same.tup s12 hpy,e2,_,rfl,_,rfl,_,a,d,rfl,hz.same s12,hd,fun r3 H3 s3 h3 f3=>?_⟩
  refine ⟨_,_,_,_,rfl,Kw.Same.tup (s12.trans s3) k2,f2.mono (by decide),h3,f3.mono (by decide),fun H4 s4=>?_⟩
  have z:=q H4 (s12.trans (s3.trans s4))
  unfold hicB at z
  rw [decide_eq_true c,Bool.true_and] at z
  exact z
 ·have z:=q H2 s12
  unfold hicB at z
  rw [decide_eq_false c,Bool.false_and] at z
  exact z
def YG (K:PySem.W.Frag):Sp:=fun vs H Q _=>∃ (z y:V) (a b:Bq) (d:Nat),vs=[z,y,.int (d:Int)]/\BqH K 5990 H z a/\BqH K 5990 H y b/\d<=1/\∀ (H1:Hp),Same H H1->Q (.bl (tchB a b d)) H1
theorem sc_touches:FnScope ["one","other","way"] ["one","other","way"] (zD (top 43)):=⟨rfl,rfl,rfl,by decide+kernel,rfl,by decide+kernel,by decide+kernel⟩
theorem ok_touches (D:Df K mg "touches" (top 43) ["one","other","way"]) (T:Tx K mg C) (F_far_side:Fn P w K mg base 3 "far_side" ["box","way"] (jH K)):Fn P w K mg base 4 "touches" ["one","other","way"] (YG K):=by
 refine D.ok0 sc_touches (fun vs H Q E h=>?_) (fun f cdv A outer s H vs Q E hr h=>?_)
 ·obtain ⟨z,y,a,b,d,rfl,_⟩:=h
  rfl
 obtain ⟨z,y,a,b,d,rfl,hz,hy,hd,q⟩:=h
 refine ⟨_,(zF (zM (yg (op_eqQ (K:=K) rfl (u100 hr)) (zL F_far_side (by decide) hr (by rfl) zG (zA (pv 0) (zA (pv 2) zB))) (zH ix_tup (pv 1) (pv 2) (fun _ _=>rfl)) (zS _)))),?_⟩
 obtain ⟨py,a0y,a1y,a2y,a3y,a4y,a5y,rfl,hpy,⟨g0y,g1y,g2y,g3y,g4y,g5y⟩,⟨d0y,d1y,d2y,d3y,d4y,d5y⟩,wty⟩:=id hy
 refine ⟨_,rfl,_,rfl,_,a,d,rfl,hz,hd,fun r1 H1 s1 h1 f1=>?_⟩
 have z:=q H1 s1
 rcases d01 hd with rfl|rfl
 ·exact ⟨_,rfl,_,rfl,py,_,_,_,rfl,rfl,Kw.Same.tup s1 hpy,rfl,r1,a0y,_,_,rfl,rfl,h1,Kw.Same.tup s1 g0y,z⟩
 ·exact ⟨_,rfl,_,rfl,py,_,_,_,rfl,rfl,Kw.Same.tup s1 hpy,rfl,r1,a1y,_,_,rfl,rfl,h1,Kw.Same.tup s1 g1y,z⟩
def YF (K:PySem.W.Frag):Sp:=fun vs H Q _=>∃ (z y:V) (a b:Bq) (d:Nat),vs=[z,y,.int (d:Int)]/\BqH K 5990 H z a/\BqH K 5990 H y b/\d<=1/\∀ (H1:Hp),Same H H1->Q (.bl (besB a b d)) H1
theorem sc_are_beside:FnScope ["one","other","way"] ["one","other","way"] (zD (top 44)):=⟨rfl,rfl,rfl,by decide+kernel,rfl,by decide+kernel,by decide+kernel⟩
theorem ok_are_beside (D:Df K mg "are_beside" (top 44) ["one","other","way"]) (T:Tx K mg C) (F_touches:Fn P w K mg base 4 "touches" ["one","other","way"] (YG K)) (F_have_in_common:Fn P w K mg base 4 "have_in_common" ["one","other","way"] (yP K)):Fn P w K mg base 5 "are_beside" ["one","other","way"] (YF K):=by
 refine D.ok0 sc_are_beside (fun vs H Q E h=>?_) (fun f cdv A outer s H vs Q E hr h=>?_)
 ·obtain ⟨z,y,a,b,d,rfl,_⟩:=h
  rfl
 obtain ⟨z,y,a,b,d,rfl,hz,hy,hd,q⟩:=h
 refine ⟨_,(zF (zM (yd (zL F_touches (by decide) hr (by rfl) zG (zA (pv 0) (zA (pv 1) (zA (pv 2) zB)))) (yR (zL F_have_in_common (by decide) hr (by rfl) zG (zA (pv 0) (zA (pv 1) (zA (zO Zu zC (pv 2)) zB)))))))),?_⟩
 refine ⟨_,rfl,_,rfl,_,rfl,z,y,a,b,d,rfl,hz,hy,hd,fun H1 s1=>⟨_,rfl,?_⟩⟩
 unfold besB at q
 cases c:tchB a b d with
 |false=>
  have z:=q H1 s1
  rw [c,Bool.false_and] at z
  exact iteF z
 |true=>
  refine iteT ⟨_,rfl,_,rfl,_,rfl,_,_,rfl,rfl,z,y,a,b,1 - d,?_,hz.same s1,hy.same s1,by omega,fun H2 s2=>?_⟩
  ·rcases d01 hd with rfl|rfl<;>rfl
  have z:=q H2 (s1.trans s2)
  rw [c,Bool.true_and] at z
  exact z
def ja (K:PySem.W.Frag):Sp:=fun vs H Q _=>∃ (z y:V) (a b:Bq),vs=[z,y]/\BqH K 5990 H z a/\BqH K 5990 H y b/\∀ (H1:Hp),Same H H1->Q (.bl (crnB a b)) H1
theorem jb:FnScope ["one","other","across"] ["one","other"] (zD (top 45)):=⟨rfl,rfl,rfl,by decide+kernel,rfl,by decide+kernel,by decide+kernel⟩
theorem ok_are_at_a_corner (D:Df K mg "are_at_a_corner" (top 45) ["one","other"]) (T:Tx K mg C) (F_touches:Fn P w K mg base 4 "touches" ["one","other","way"] (YG K)):Fn P w K mg base 5 "are_at_a_corner" ["one","other"] (ja K):=by
 refine D.ok0 jb (fun vs H Q E h=>?_) (fun f cdv A outer s H vs Q E hr h=>?_)
 ·obtain ⟨z,y,a,b,rfl,_⟩:=h
  rfl
 obtain ⟨z,y,a,b,rfl,hz,hy,q⟩:=h
 refine ⟨_,(zE (zN (i:=2) jb.nd rfl (Or.inl rfl) (pe_or (zL F_touches (by decide) hr (by rfl) zG (zA (pv 0) (zA (pv 1) (zA (zW (by rfl) T.k_ACROSS) zB)))) (yR (zL F_touches (by decide) hr (by rfl) zG (zA (pv 1) (zA (pv 0) (zA (zW (by rfl) T.k_ACROSS) zB)))))))
   (zF (zM (yd (pv 2) (yR (pe_or (zL F_touches (by decide) hr (by rfl) zG (zA (pv 0) (zA (pv 1) (zA (zW (by rfl) T.k_ALONG) zB)))) (yR (zL F_touches (by decide) hr (by rfl) zG (zA (pv 1) (zA (pv 0) (zA (zW (by rfl) T.k_ALONG) zB))))))))))),?_⟩
 unfold crnB at q
 refine cut1 (fun σ' H'=>∃ c:Bool,σ'=[some z,some y,some (.bl c)]/\Same H H'/\c=(tchB a b 0 || tchB b a 0)) (fun N hN=>?_) ?_
 ·refine ⟨_,rfl,_,rfl,z,y,a,b,0,rfl,hz,hy,by decide,fun H1 s1=>⟨_,rfl,?_⟩⟩
  cases c:tchB a b 0 with
  |true=>exact iteT (hN _ _ ⟨_,rfl,s1,by rw [c]; rfl⟩)
  |false=>
   refine iteF ⟨_,rfl,_,rfl,y,z,b,a,0,rfl,hy.same s1,hz.same s1,by decide,fun H2 s2=>?_⟩
   exact hN _ _ ⟨_,rfl,s1.trans s2,by rw [c]; rfl⟩
 rintro σ' H2 ⟨c,rfl,s2,ec⟩
 refine ⟨_,rfl,_,rfl,?_⟩
 rw [<- ec] at q
 cases c with
 |false=>
  exact iteF (q H2 s2)
 |true=>
  refine iteT ⟨_,rfl,_,rfl,z,y,a,b,1,rfl,hz.same s2,hy.same s2,by decide,fun H3 s3=>⟨_,rfl,?_⟩⟩
  cases c:tchB a b 1 with
  |true=>
   have z:=q H3 (s2.trans s3)
   rw [c] at z
   exact iteT z
  |false=>
   refine iteF ⟨_,rfl,_,rfl,y,z,b,a,1,rfl,hy.same (s2.trans s3),hz.same (s2.trans s3),by decide,fun H4 s4=>?_⟩
   have z:=q H4 (s2.trans (s3.trans s4))
   rw [c] at z
   exact z
def JP (K:PySem.W.Frag):Sp:=fun vs H Q _=>∃ (p a c:Addr) (x v:Rat) (ys:List V) (u:Addr) (t:Rat),vs=[.ref p,.ref u]/\SqT K H p (.ref a::.ref c::ys)/\FQ K H a x/\FQ K H c v/\FB 1990 x/\FB 1990 v/\FQ K H u t/\FB 2000 t/\∀ (r:Addr) (H1:Hp),Same H H1->FQ K H1 r (x+v * t)->FB 5990 (x+v * t)->Q (.ref r) H1
theorem sc_place_at:FnScope ["body","moment"] ["body","moment"] (zD (top 24)):=⟨rfl,rfl,rfl,by decide+kernel,rfl,by decide+kernel,by decide+kernel⟩
theorem ok_place_at (D:Df K mg "place_at" (top 24) ["body","moment"]) (T:Tx K mg C) (F_plus:Fn P w K mg base 2 "plus" ["one","other"] (Z9 K)) (F_times:Fn P w K mg base 2 "times" ["one","other"] (Yw K)):Fn P w K mg base 3 "place_at" ["body","moment"] (JP K):=by
 refine D.ok0 sc_place_at (fun vs H Q E h=>?_) (fun f cdv A outer s H vs Q E hr h=>?_)
 ·obtain ⟨p,a,c,x,v,ys,u,t,rfl,_⟩:=h
  rfl
 obtain ⟨p,a,c,x,v,ys,u,t,rfl,hp,ga,gc,da,dc,gt,dt,k⟩:=h
 refine ⟨_,(zF (zM (zL F_plus (by decide) hr (by rfl) zG (zA (zH ix_tup (pv 0) zC (fun _ _=>rfl)) (zA (zL F_times (by decide) hr (by rfl) zG (zA (zH ix_tup (pv 0) zC (fun _ _=>rfl)) (zA (pv 1) zB))) zB))))),?_⟩
 refine ⟨_,rfl,p,_,_,_,rfl,rfl,hp,zr (j:=0) rfl,_,rfl,p,_,_,_,rfl,rfl,hp,zr (j:=1) rfl,_,rfl,c,v,u,t,rfl,gc,dc.mono (by decide),gt,dt.mono (by decide),fun r1 H1 s1 g1=>?_⟩
 refine ⟨a,x,r1,_,rfl,Kw.Same.tup s1 ga,da.mono (by decide),g1,(FB.mul dc dt).mono (by decide),fun r2 H2 s2 g2=>?_⟩
 exact k r2 H2 (s1.trans s2) g2 ((FB.add da (FB.mul dc dt)).mono (by decide))
def Y3 (K:PySem.W.Frag):Sp:=fun vs H Q _=>∃ (z:V) (b:Bq) (u:Addr) (t:Rat),vs=[z,.ref u]/\BqH K 1990 H z b/\FQ K H u t/\FB 2000 t/\∀ (r:Addr) (H1:Hp),Same H H1->BqH K 5990 H1 (.ref r) (atB t b)->Q (.ref r) H1
theorem Y9:FnScope ["box","moment","left","low"] ["box","moment"] (zD (top 46)):=⟨rfl,rfl,rfl,by decide+kernel,rfl,by decide+kernel,by decide+kernel⟩
theorem ok_box_at (D:Df K mg "box_at" (top 46) ["box","moment"]) (T:Tx K mg C) (F_place_at:Fn P w K mg base 3 "place_at" ["body","moment"] (JP K)):Fn P w K mg base 4 "box_at" ["box","moment"] (Y3 K):=by
 refine D.ok0 Y9 (fun vs H Q E h=>?_) (fun f cdv A outer s H vs Q E hr h=>?_)
 ·obtain ⟨z,b,u,t,rfl,_⟩:=h
  rfl
 obtain ⟨z,b,u,t,rfl,⟨p,a0,a1,a2,a3,a4,a5,rfl,hp,⟨g0,g1,g2,g3,g4,g5⟩,⟨d0,d1,d2,d3,d4,d5⟩,wt⟩,gt,dt,k⟩:=h
 refine ⟨_,(zE (zN (i:=2) Y9.nd rfl (Or.inl rfl) (zL F_place_at (by decide) hr (by rfl) zG (zA (zR (zA (zH ix_tup (pv 0) zC (fun _ _=>rfl)) (zA (zH ix_tup (pv 0) zC (fun _ _=>rfl)) zB))) (zA (pv 1) zB))))
   (zE (zN (i:=3) Y9.nd rfl (Or.inl rfl) (zL F_place_at (by decide) hr (by rfl) zG (zA (zR (zA (zH ix_tup (pv 0) zC (fun _ _=>rfl)) (zA (zH ix_tup (pv 0) zC (fun _ _=>rfl)) zB))) (zA (pv 1) zB))))
   (zF (zM (zO (op_catAK (K:=K) rfl) (zR (zA (pv 2) (zA (pv 3) zB))) (Yi (sl_tupK (K:=K) rfl) (pv 0) (Jk zC) JW)))))),?_⟩
 refine ⟨_,rfl,p,_,_,_,rfl,rfl,hp,rfl,_,rfl,p,_,_,_,rfl,rfl,hp,rfl,by show 2<=sizeLine; decide,?_⟩
 intro p1 n1
 obtain ⟨H1,q1,s1,e1⟩:=newO n1 (.tup [.ref a0,.ref a4])
 rw [q1]
 clear q1
 refine ⟨_,rfl,p1,a0,a4,b.x,b.u,[],u,t,rfl,SqT.of e1,Kw.Same.tup s1 g0,Kw.Same.tup s1 g4,d0,d4,Kw.Same.tup s1 gt,dt,fun r2 H2 s2 k2 f2=>?_⟩
 have s12:=s1.trans s2
 have hp2:=Kw.Same.tup s12 hp
 refine ⟨_,rfl,p,_,_,_,rfl,rfl,hp2,rfl,_,rfl,p,_,_,_,rfl,rfl,hp2,rfl,by show 2<=sizeLine; decide,?_⟩
 intro p3 n3
 obtain ⟨H3,q3,s3,e3⟩:=newO n3 (.tup [.ref a1,.ref a5])
 rw [q3]
 clear q3
 have s13:=s12.trans s3
 refine ⟨_,rfl,p3,a1,a5,b.y,b.v,[],u,t,rfl,SqT.of e3,Kw.Same.tup s13 g1,Kw.Same.tup s13 g5,d1,d5,Kw.Same.tup s13 gt,dt,fun r4 H4 s4 k4 f4=>?_⟩
 have s14:=s13.trans s4
 refine ⟨_,rfl,_,rfl,by show 2<=sizeLine; decide,?_⟩
 intro p5 n5
 obtain ⟨H5,q5,s5,e5⟩:=newO n5 (.tup [.ref r2,.ref r4])
 rw [q5]
 clear q5
 have s15:=s14.trans s5
 have hp5:=Kw.Same.tup s15 hp
 refine ⟨_,rfl,_,rfl,p,_,rfl,hp5,cut_gt (n:=7) (by decide) (by decide),?_⟩
 intro p6 n6
 obtain ⟨H6,q6,s6,e6⟩:=newO n6 (.tup (cutV [.ref a0,.ref a1,.ref a2,.ref a3,.ref a4,.ref a5,wV b.m] (some 2) none))
 rw [q6]
 clear q6
 have e6':H6 p6=some (.tup [.ref a2,.ref a3,.ref a4,.ref a5,wV b.m]):=e6
 refine ⟨p5,p6,_,_,rfl,rfl,SqT.of (s6 _ _ e5),SqT.of e6',by show 7<=sizeLine; decide,fun z=>(nomatch z),fun _ z=>(nomatch z),fun _ _=>?_⟩
 intro p7 n7
 obtain ⟨H7,q7,s7,e7⟩:=newO n7 (.tup ([.ref r2,.ref r4]++[.ref a2,.ref a3,.ref a4,.ref a5,wV b.m]))
 rw [q7]
 clear q7
 have s17:=s15.trans (s6.trans s7)
 have s47:=s5.trans (s6.trans s7)
 exact k p7 H7 s17 ⟨p7,r2,r4,a2,a3,a4,a5,rfl,SqT.of e7,⟨Kw.Same.tup (s3.trans (s4.trans s47)) k2,Kw.Same.tup s47 k4,Kw.Same.tup s17 g2,Kw.Same.tup s17 g3,Kw.Same.tup s17 g4,Kw.Same.tup s17 g5⟩,⟨f2,f4,d2,d3,d4,d5⟩,wt⟩
def jq (K:PySem.W.Frag):Sp:=fun vs H Q _=>∃ (z:V) (b:Bq) (d:Nat),vs=[z,.int (d:Int)]/\BqH K 1990 H z b/\d<=1/\∀ (r:Addr) (H1:Hp),Same H H1->GoQ K 1990 H1 (.ref r) (yA b d)->Q (.ref r) H1
theorem sc_near_going:FnScope ["box","way"] ["box","way"] (zD (top 47)):=⟨rfl,rfl,rfl,by decide+kernel,rfl,by decide+kernel,by decide+kernel⟩
theorem ok_near_going (D:Df K mg "near_going" (top 47) ["box","way"]) (T:Tx K mg C):Fn P w K mg base 1 "near_going" ["box","way"] (jq K):=by
 refine D.ok0 sc_near_going (fun vs H Q E h=>?_) (fun f cdv A outer s H vs Q E hr h=>?_)
 ·obtain ⟨z,b,d,rfl,_⟩:=h
  rfl
 obtain ⟨z,b,d,rfl,⟨p,a0,a1,a2,a3,a4,a5,rfl,hp,⟨g0,g1,g2,g3,g4,g5⟩,⟨d0,d1,d2,d3,d4,d5⟩,wt⟩,hd,q⟩:=h
 refine ⟨_,(zF (zM (zR (zA (zH ix_tup (pv 0) (pv 1) (fun _ _=>rfl)) (zA (zH ix_tup (pv 0) (zO zj (zW (by rfl) T.k_SPEEDS) (pv 1)) (fun _ _=>rfl)) (zA (zH ix_tup (pv 0) zC (fun _ _=>rfl)) zB)))))),?_⟩
 rcases d01 hd with rfl|rfl
 ·refine ⟨_,rfl,_,rfl,p,_,_,_,rfl,rfl,hp,rfl,_,rfl,_,rfl,_,_,rfl,rfl,p,_,_,_,rfl,rfl,hp,rfl,_,rfl,p,_,_,_,rfl,rfl,hp,rfl,by show 3<=sizeLine; decide,?_⟩
  intro p1 n1
  obtain ⟨H1,q1,s1,e1⟩:=newO n1 (.tup [.ref a0,.ref a4,wV b.m])
  rw [q1]
  clear q1
  exact q p1 H1 s1 ⟨p1,a0,a4,rfl,SqT.of e1,Kw.Same.tup s1 g0,Kw.Same.tup s1 g4,d0,d4,wt⟩
 ·refine ⟨_,rfl,_,rfl,p,_,_,_,rfl,rfl,hp,rfl,_,rfl,_,rfl,_,_,rfl,rfl,p,_,_,_,rfl,rfl,hp,rfl,_,rfl,p,_,_,_,rfl,rfl,hp,rfl,by show 3<=sizeLine; decide,?_⟩
  intro p1 n1
  obtain ⟨H1,q1,s1,e1⟩:=newO n1 (.tup [.ref a1,.ref a5,wV b.m])
  rw [q1]
  clear q1
  exact q p1 H1 s1 ⟨p1,a1,a5,rfl,SqT.of e1,Kw.Same.tup s1 g1,Kw.Same.tup s1 g5,d1,d5,wt⟩
def ZN (K:PySem.W.Frag):Sp:=fun vs H Q _=>∃ (z:V) (b:Bq) (d:Nat),vs=[z,.int (d:Int)]/\BqH K 1990 H z b/\d<=1/\FB 1990 (b.far d)/\∀ (r:Addr) (H1:Hp),Same H H1->GoQ K 1990 H1 (.ref r) (farG b d)->Q (.ref r) H1
theorem sc_far_going:FnScope ["box","way"] ["box","way"] (zD (top 48)):=⟨rfl,rfl,rfl,by decide+kernel,rfl,by decide+kernel,by decide+kernel⟩
theorem ok_far_going (D:Df K mg "far_going" (top 48) ["box","way"]) (T:Tx K mg C) (F_far_side:Fn P w K mg base 3 "far_side" ["box","way"] (jH K)):Fn P w K mg base 4 "far_going" ["box","way"] (ZN K):=by
 refine D.ok0 sc_far_going (fun vs H Q E h=>?_) (fun f cdv A outer s H vs Q E hr h=>?_)
 ·obtain ⟨z,b,d,rfl,_⟩:=h
  rfl
 obtain ⟨z,b,d,rfl,hz,hd,fb,q⟩:=h
 refine ⟨_,(zF (zM (zR (zA (zL F_far_side (by decide) hr (by rfl) zG (zA (pv 0) (zA (pv 1) zB))) (zA (zH ix_tup (pv 0) (zO zj (zW (by rfl) T.k_SPEEDS) (pv 1)) (fun _ _=>rfl)) (zA (zH ix_tup (pv 0) zC (fun _ _=>rfl)) zB)))))),?_⟩
 refine ⟨_,rfl,_,rfl,z,b,d,rfl,hz.mono (by decide),hd,fun r1 H1 s1 k1 _=>?_⟩
 obtain ⟨p,a0,a1,a2,a3,a4,a5,rfl,hp,⟨g0,g1,g2,g3,g4,g5⟩,⟨d0,d1,d2,d3,d4,d5⟩,wt⟩:=hz.same s1
 rcases d01 hd with rfl|rfl
 ·refine ⟨_,rfl,_,rfl,_,_,rfl,rfl,p,_,_,_,rfl,rfl,hp,rfl,_,rfl,p,_,_,_,rfl,rfl,hp,rfl,by show 3<=sizeLine; decide,?_⟩
  intro p2 n2
  obtain ⟨H2,q2,s2,e2⟩:=newO n2 (.tup [.ref r1,.ref a4,wV b.m])
  rw [q2]
  clear q2
  exact q p2 H2 (s1.trans s2) ⟨p2,r1,a4,rfl,SqT.of e2,Kw.Same.tup s2 k1,Kw.Same.tup s2 g4,fb,d4,wt⟩
 ·refine ⟨_,rfl,_,rfl,_,_,rfl,rfl,p,_,_,_,rfl,rfl,hp,rfl,_,rfl,p,_,_,_,rfl,rfl,hp,rfl,by show 3<=sizeLine; decide,?_⟩
  intro p2 n2
  obtain ⟨H2,q2,s2,e2⟩:=newO n2 (.tup [.ref r1,.ref a5,wV b.m])
  rw [q2]
  clear q2
  exact q p2 H2 (s1.trans s2) ⟨p2,r1,a5,rfl,SqT.of e2,Kw.Same.tup s2 k1,Kw.Same.tup s2 g5,fb,d5,wt⟩
def yh (K:PySem.W.Frag):Sp:=fun vs H Q _=>∃ (z:V) (b:Bq) (d:Nat) (pg a c:Addr) (x v:Rat) (ys:List V),vs=[z,.int (d:Int),.ref pg]/\BqH K 1990 H z b/\d<=1/\SqT K H pg (.ref a::.ref c::ys)/\FQ K H a x/\FQ K H c v/\FB 1990 x/\FB 1990 v/\∀ (r:Addr) (H1:Hp),Same H H1->BqH K 1990 H1 (.ref r) (b.with d x v)->Q (.ref r) H1
theorem jX:FnScope ["box","way","going","parts"] ["box","way","going"] (zD (top 49)):=⟨rfl,rfl,rfl,by decide+kernel,rfl,by decide+kernel,by decide+kernel⟩
theorem ok_with_near_going (D:Df K mg "with_near_going" (top 49) ["box","way","going"]) (T:Tx K mg C):Fn P w K mg base 1 "with_near_going" ["box","way","going"] (yh K):=by
 refine D.ok0 jX (fun vs H Q E h=>?_) (fun f cdv A outer s H vs Q E hr h=>?_)
 ·obtain ⟨z,b,d,pg,a,c,x,v,ys,rfl,_⟩:=h
  rfl
 obtain ⟨z,b,d,pg,a,c,x,v,ys,rfl,⟨p,a0,a1,a2,a3,a4,a5,rfl,hp,⟨g0,g1,g2,g3,g4,g5⟩,⟨d0,d1,d2,d3,d4,d5⟩,wt⟩,hd,hg,ga,gc,da,dc,q⟩:=h
 refine ⟨_,(zE (zN (i:=3) jX.nd rfl (Or.inl rfl) (yW jP (by rfl) T.b_list PyProof.Rows.Boot.«list» (zA (pv 0) zB)))
   (zE (YK (zH ix_tup (pv 2) zC (fun _ _=>rfl)) (Y0 (pv 3) (pv 1) j2))
   (zE (YK (zH ix_tup (pv 2) zC (fun _ _=>rfl)) (Y0 (pv 3) (zO zj (zW (by rfl) T.k_SPEEDS) (pv 1)) j2))
   (zF (zM (yW call_tuple_of (by rfl) T.b_tuple PyProof.Rows.Boot.«tuple» (zA (pv 3) zB))))))),?_⟩
 refine ⟨_,rfl,p,_,rfl,.inr hp,?_⟩
 intro p1 n1
 obtain ⟨H1,q1,s1,e1⟩:=newO n1 (.lst [.ref a0,.ref a1,.ref a2,.ref a3,.ref a4,.ref a5,wV b.m])
 rw [q1]
 clear q1
 have tk:∀ {H2:Hp} {r:Addr} {xs:List V},But p1 H1 H2->SqT K H r xs->SqT K H2 r xs:=fun s h=>s.tup e1 (Kw.Same.tup s1 h)
 have hg1:=Kw.Same.tup s1 hg
 rcases d01 hd with rfl|rfl
 ·refine ⟨_,rfl,pg,_,_,_,rfl,rfl,hg1,zr (j:=0) rfl,_,rfl,_,rfl,p1,_,_,0,rfl,rfl,e1,rfl,?_⟩
  obtain ⟨H2,q2,s2,e2⟩:=newB (H:=H1) (p:=p1) (.lst [.ref a,.ref a1,.ref a2,.ref a3,.ref a4,.ref a5,wV b.m])
  dsimp only
  rw [show (List.set [V.ref a0,.ref a1,.ref a2,.ref a3,.ref a4,.ref a5,wV b.m] 0 (V.ref a))=[.ref a,.ref a1,.ref a2,.ref a3,.ref a4,.ref a5,wV b.m] from rfl,q2]
  clear q2
  have hg2:=s2.tup e1 hg1
  refine ⟨_,rfl,pg,_,_,_,rfl,rfl,hg2,zr (j:=1) rfl,_,rfl,_,rfl,_,_,rfl,rfl,p1,_,_,4,rfl,rfl,e2,rfl,?_⟩
  obtain ⟨H3,q3,s3,e3⟩:=newB (H:=H2) (p:=p1) (.lst [.ref a,.ref a1,.ref a2,.ref a3,.ref c,.ref a5,wV b.m])
  dsimp only
  rw [show (List.set [V.ref a,.ref a1,.ref a2,.ref a3,.ref a4,.ref a5,wV b.m] 4 (V.ref c))=[.ref a,.ref a1,.ref a2,.ref a3,.ref c,.ref a5,wV b.m] from rfl,q3]
  clear q3
  refine ⟨_,rfl,p1,_,rfl,.inl ⟨SqL.of e3,?_⟩⟩
  intro p4 n4
  obtain ⟨H4,q4,s4,e4⟩:=newO n4 (.tup [.ref a,.ref a1,.ref a2,.ref a3,.ref c,.ref a5,wV b.m])
  rw [q4]
  clear q4
  have B3:But p1 H1 H3:=s2.trans s3
  have tk4:∀ {r:Addr} {xs:List V},SqT K H r xs->SqT K H4 r xs:=fun h=>Kw.Same.tup s4 (tk B3 h)
  refine q p4 H4 (fun z o hz=>s4 _ _ (B3 z o (zI hz n1) (s1 _ _ hz))) ⟨p4,a,a1,a2,a3,c,a5,rfl,SqT.of e4,⟨tk4 ga,tk4 g1,tk4 g2,tk4 g3,tk4 gc,tk4 g5⟩,⟨da,d1,d2,d3,dc,d5⟩,wt⟩
 ·refine ⟨_,rfl,pg,_,_,_,rfl,rfl,hg1,zr (j:=0) rfl,_,rfl,_,rfl,p1,_,_,1,rfl,rfl,e1,rfl,?_⟩
  obtain ⟨H2,q2,s2,e2⟩:=newB (H:=H1) (p:=p1) (.lst [.ref a0,.ref a,.ref a2,.ref a3,.ref a4,.ref a5,wV b.m])
  dsimp only
  rw [show (List.set [V.ref a0,.ref a1,.ref a2,.ref a3,.ref a4,.ref a5,wV b.m] 1 (V.ref a))=[.ref a0,.ref a,.ref a2,.ref a3,.ref a4,.ref a5,wV b.m] from rfl,q2]
  clear q2
  have hg2:=s2.tup e1 hg1
  refine ⟨_,rfl,pg,_,_,_,rfl,rfl,hg2,zr (j:=1) rfl,_,rfl,_,rfl,_,_,rfl,rfl,p1,_,_,5,rfl,rfl,e2,rfl,?_⟩
  obtain ⟨H3,q3,s3,e3⟩:=newB (H:=H2) (p:=p1) (.lst [.ref a0,.ref a,.ref a2,.ref a3,.ref a4,.ref c,wV b.m])
  dsimp only
  rw [show (List.set [V.ref a0,.ref a,.ref a2,.ref a3,.ref a4,.ref a5,wV b.m] 5 (V.ref c))=[.ref a0,.ref a,.ref a2,.ref a3,.ref a4,.ref c,wV b.m] from rfl,q3]
  clear q3
  refine ⟨_,rfl,p1,_,rfl,.inl ⟨SqL.of e3,?_⟩⟩
  intro p4 n4
  obtain ⟨H4,q4,s4,e4⟩:=newO n4 (.tup [.ref a0,.ref a,.ref a2,.ref a3,.ref a4,.ref c,wV b.m])
  rw [q4]
  clear q4
  have B3:But p1 H1 H3:=s2.trans s3
  have tk4:∀ {r:Addr} {xs:List V},SqT K H r xs->SqT K H4 r xs:=fun h=>Kw.Same.tup s4 (tk B3 h)
  refine q p4 H4 (fun z o hz=>s4 _ _ (B3 z o (zI hz n1) (s1 _ _ hz))) ⟨p4,a0,a,a2,a3,a4,c,rfl,SqT.of e4,⟨tk4 g0,tk4 ga,tk4 g2,tk4 g3,tk4 g4,tk4 gc⟩,⟨d0,da,d2,d3,d4,dc⟩,wt⟩
def jp (K:PySem.W.Frag):Sp:=fun vs H Q _=>∃ (z:V) (b:Bq) (d:Nat) (pg a c:Addr) (x v:Rat) (ys:List V),vs=[z,.int (d:Int),.ref pg]/\BqH K 1990 H z b/\d<=1/\SqT K H pg (.ref a::.ref c::ys)/\FQ K H a x/\FQ K H c v/\FB 1990 x/\FB 1990 v/\FB 1990 (x - b.sz d)/\∀ (r:Addr) (H1:Hp),Same H H1->BqH K 1990 H1 (.ref r) (b.with d (x - b.sz d) v)->Q (.ref r) H1
theorem sc_with_far_going:FnScope ["box","way","going"] ["box","way","going"] (zD (top 50)):=⟨rfl,rfl,rfl,by decide+kernel,rfl,by decide+kernel,by decide+kernel⟩
theorem ok_with_far_going (D:Df K mg "with_far_going" (top 50) ["box","way","going"]) (T:Tx K mg C) (F_minus:Fn P w K mg base 3 "minus" ["one","other"] (Zg K)) (F_with_near_going:Fn P w K mg base 1 "with_near_going" ["box","way","going"] (yh K)):Fn P w K mg base 4 "with_far_going" ["box","way","going"] (jp K):=by
 refine D.ok0 sc_with_far_going (fun vs H Q E h=>?_) (fun f cdv A outer s H vs Q E hr h=>?_)
 ·obtain ⟨z,b,d,pg,a,c,x,v,ys,rfl,_⟩:=h
  rfl
 obtain ⟨z,b,d,pg,a,c,x,v,ys,rfl,hz,hd,hg,ga,gc,da,dc,df,q⟩:=h
 refine ⟨_,(zF (zM (zL F_with_near_going (by decide) hr (by rfl) zG (zA (pv 0) (zA (pv 1) (zA (zR (zA (zL F_minus (by decide) hr (by rfl) zG (zA (zH ix_tup (pv 2) zC (fun _ _=>rfl)) (zA (zH ix_tup (pv 0) (zO zj (zW (by rfl) T.k_SIZES) (pv 1)) (fun _ _=>rfl)) zB))) (zA (zH ix_tup (pv 2) zC (fun _ _=>rfl)) zB))) zB)))))),?_⟩
 obtain ⟨p,a0,a1,a2,a3,a4,a5,rfl,hp,⟨g0,g1,g2,g3,g4,g5⟩,⟨d0,d1,d2,d3,d4,d5⟩,wt⟩:=id hz
 obtain ⟨as,es,gs,ds⟩:∃ as:Addr,atI [V.ref a0,.ref a1,.ref a2,.ref a3,.ref a4,.ref a5,wV b.m] (2+(d:Int))=some (.ref as)/\FQ K H as (b.sz d)/\FB 1990 (b.sz d):=by
  rcases d01 hd with rfl|rfl
  ·exact ⟨a2,rfl,g2,d2⟩
  ·exact ⟨a3,rfl,g3,d3⟩
 refine ⟨_,rfl,_,rfl,_,rfl,pg,_,_,_,rfl,rfl,hg,zr (j:=0) rfl,_,rfl,_,rfl,_,_,rfl,rfl,p,_,_,_,rfl,rfl,hp,es,_,_,_,_,rfl,ga,da.mono (by decide),gs,ds.mono (by decide),fun r1 H1 s1 k1=>?_⟩
 have hg1:=Kw.Same.tup s1 hg
 refine ⟨_,rfl,pg,_,_,_,rfl,rfl,hg1,zr (j:=1) rfl,by show 2<=sizeLine; decide,?_⟩
 intro p2 n2
 obtain ⟨H2,q2,s2,e2⟩:=newO n2 (.tup [.ref r1,.ref c])
 rw [q2]
 clear q2
 have s12:=s1.trans s2
 exact ⟨_,b,d,p2,r1,c,_,v,[],rfl,hz.same s12,hd,SqT.of e2,Kw.Same.tup s2 k1,Kw.Same.tup s12 gc,df,dc,fun r H3 s3 h3=>q r H3 (s12.trans s3) h3⟩
def sp_mixed (K:PySem.W.Frag):Sp:=fun vs H Q _=>∃ (p_x:Addr) (x:Rat) (p_y:Addr) (y:Rat) (m:Int) (u:Int) (p_s:Addr) (s:Rat),vs=[.ref p_x,.ref p_y,.int m,.int u,.ref p_s]/\FQ K H p_x x/\FB 1990 x/\FQ K H p_y y/\FB 1990 y/\1<=m/\m<=10000/\1<=u/\u<=10000/\FQ K H p_s s/\FB 64 s/\(∀ (p_r:Addr) (H1:Hp),Same H H1->FQ K H1 p_r (mixS x y m u s)->Q (.ref p_r) H1)
theorem Yj:FnScope ["own","far","weight","mass","share","both","kept","taken"] ["own","far","weight","mass","share"] (zD (top 26)):=⟨rfl,rfl,rfl,by decide+kernel,rfl,by decide+kernel,by decide+kernel⟩
theorem ok_mixed (D:Df K mg "mixed" (top 26) ["own","far","weight","mass","share"]) (T:Tx K mg C) (F_fraction:Fn P w K mg base 2 "fraction" ["top","bottom"] (JQ K)) (F_times:Fn P w K mg base 2 "times" ["one","other"] (Yw K)) (F_plus:Fn P w K mg base 2 "plus" ["one","other"] (Z9 K)):Fn P w K mg base 3 "mixed" ["own","far","weight","mass","share"] (sp_mixed K):=by
 refine D.ok0 Yj (fun vs H Q E h=>?_) (fun f cdv A outer s H vs Q E hr h=>?_)
 ·obtain ⟨p_x,x,p_y,y,m,u,p_s,s,rfl,_⟩:=h
  rfl
 obtain ⟨p_x,x,p_y,y,m,u,p_s,s,rfl,g_x,d_x,g_y,d_y,lo_m,hi_m,lo_u,hi_u,g_s,d_s,k0⟩:=h
 refine ⟨_,(zE (zN (i:=5) Yj.nd rfl (Or.inl rfl) (zO zc (zO zj (pv 2) (pv 3)) (zH ix_tup (pv 4) zC (fun _ _=>rfl))))
   (zE (zN (i:=6) Yj.nd rfl (Or.inl rfl) (zL F_times (by decide) hr (by rfl) zG (zA (pv 0) (zA (zL F_fraction (by decide) hr (by rfl) zG (zA (zO Zu (zO zc (pv 2) (zH ix_tup (pv 4) zC (fun _ _=>rfl))) (zO zc (pv 3) (zH ix_tup (pv 4) zC (fun _ _=>rfl)))) (zA (pv 5) zB))) zB))))
   (zE (zN (i:=7) Yj.nd rfl (Or.inl rfl) (zL F_times (by decide) hr (by rfl) zG (zA (pv 1) (zA (zL F_fraction (by decide) hr (by rfl) zG (zA (zO zc (pv 3) (zO zj (zH ix_tup (pv 4) zC (fun _ _=>rfl)) (zH ix_tup (pv 4) zC (fun _ _=>rfl)))) (zA (pv 5) zB))) zB))))
   (zF (zM (zL F_plus (by decide) hr (by rfl) zG (zA (pv 6) (zA (pv 7) zB)))))))),?_⟩
 refine ⟨_,rfl,_,rfl,_,_,rfl,rfl,_,rfl,p_s,_,_,_,rfl,rfl,g_s,rfl,_,_,rfl,rfl,((Bd.add ((Bd.small (i:=m) (by omega) (by omega)).mono (n:=64) (by decide)) ((Bd.small (i:=u) (by omega) (by omega)).mono (n:=64) (by decide))).ok d_s.2 (by decide)),?_⟩
 refine ⟨_,rfl,_,rfl,_,rfl,p_s,_,_,_,rfl,rfl,g_s,rfl,_,_,rfl,rfl,((Bd.small (i:=m) (by omega) (by omega)).ok d_s.2 (by decide)),_,rfl,_,rfl,p_s,_,_,_,rfl,rfl,g_s,rfl,_,_,rfl,rfl,((Bd.small (i:=u) (by omega) (by omega)).ok d_s.1 (by decide)),_,_,rfl,rfl,_,rfl,_,_,rfl,((Bd.mul (Bd.add ((Bd.small (i:=m) (by omega) (by omega)).mono (n:=64) (by decide)) ((Bd.small (i:=u) (by omega) (by omega)).mono (n:=64) (by decide))) d_s.2).mono (by decide)),(by exact Ja (by omega) (by omega)),fun p_r4 H4 s4 g_r4=>?_⟩
 have d_r4:FB 129 (Rat.divInt (((m * (((s).den:Nat):Int)) - (u * (s).num))) (((m+u) * (((s).den:Nat):Int)))):=(FB.mono (FB.fit (by exact Ja (by omega) (by omega)) ((Bd.sub ((Bd.mul (Bd.small (i:=m) (by omega) (by omega)) d_s.2).mono (n:=128) (by decide)) ((Bd.mul (Bd.small (i:=u) (by omega) (by omega)) d_s.1).mono (n:=128) (by decide))).mono (n:=129) (by decide)) ((Bd.mul (Bd.add ((Bd.small (i:=m) (by omega) (by omega)).mono (n:=64) (by decide)) ((Bd.small (i:=u) (by omega) (by omega)).mono (n:=64) (by decide))) d_s.2).mono (n:=129) (by decide))) (by decide))
 replace g_x:=(Kw.Same.tup s4 g_x)
 refine ⟨_,_,_,_,rfl,g_x,(FB.mono d_x (by decide)),g_r4,(FB.mono d_r4 (by decide)),fun p_r5 H5 s5 g_r5=>?_⟩
 have d_r5:FB 2119 (x * ((Rat.divInt (((m * (((s).den:Nat):Int)) - (u * (s).num))) (((m+u) * (((s).den:Nat):Int)))))):=(FB.mono (FB.mul d_x d_r4) (by decide))
 replace g_s:=(Kw.Same.tup s5 (Kw.Same.tup s4 g_s))
 refine ⟨_,rfl,_,rfl,_,rfl,p_s,_,_,_,rfl,rfl,g_s,rfl,_,rfl,p_s,_,_,_,rfl,rfl,g_s,rfl,_,_,rfl,rfl,_,_,rfl,rfl,((Bd.small (i:=u) (by omega) (by omega)).ok (Bd.add (d_s.2.mono (n:=64) (by decide)) (d_s.1.mono (n:=64) (by decide))) (by decide)),_,rfl,_,_,rfl,((Bd.mul (Bd.add ((Bd.small (i:=m) (by omega) (by omega)).mono (n:=64) (by decide)) ((Bd.small (i:=u) (by omega) (by omega)).mono (n:=64) (by decide))) d_s.2).mono (by decide)),(by exact Ja (by omega) (by omega)),fun p_r6 H6 s6 g_r6=>?_⟩
 have d_r6:FB 129 (Rat.divInt ((u * ((((s).den:Nat):Int)+(s).num))) (((m+u) * (((s).den:Nat):Int)))):=(FB.mono (FB.fit (by exact Ja (by omega) (by omega)) ((Bd.mul (Bd.small (i:=u) (by omega) (by omega)) (Bd.add (d_s.2.mono (n:=64) (by decide)) (d_s.1.mono (n:=64) (by decide)))).mono (n:=129) (by decide)) ((Bd.mul (Bd.add ((Bd.small (i:=m) (by omega) (by omega)).mono (n:=64) (by decide)) ((Bd.small (i:=u) (by omega) (by omega)).mono (n:=64) (by decide))) d_s.2).mono (n:=129) (by decide))) (by decide))
 replace g_y:=(Kw.Same.tup s6 (Kw.Same.tup s5 (Kw.Same.tup s4 g_y)))
 refine ⟨_,_,_,_,rfl,g_y,(FB.mono d_y (by decide)),g_r6,(FB.mono d_r6 (by decide)),fun p_r7 H7 s7 g_r7=>?_⟩
 have d_r7:FB 2119 (y * ((Rat.divInt ((u * ((((s).den:Nat):Int)+(s).num))) (((m+u) * (((s).den:Nat):Int)))))):=(FB.mono (FB.mul d_y d_r6) (by decide))
 replace g_r5:=(Kw.Same.tup s7 (Kw.Same.tup s6 g_r5))
 refine ⟨_,rfl,_,rfl,_,_,_,_,rfl,g_r5,(FB.mono d_r5 (by decide)),g_r7,(FB.mono d_r7 (by decide)),fun p_r8 H8 s8 g_r8=>?_⟩
 have d_r8:FB 4239 (((x * ((Rat.divInt (((m * (((s).den:Nat):Int)) - (u * (s).num))) (((m+u) * (((s).den:Nat):Int)))))))+((y * ((Rat.divInt ((u * ((((s).den:Nat):Int)+(s).num))) (((m+u) * (((s).den:Nat):Int)))))))):=(FB.mono (FB.add d_r5 d_r7) (by decide))
 have e9:((((x * ((Rat.divInt (((m * (((s).den:Nat):Int)) - (u * (s).num))) (((m+u) * (((s).den:Nat):Int)))))))+((y * ((Rat.divInt ((u * ((((s).den:Nat):Int)+(s).num))) (((m+u) * (((s).den:Nat):Int)))))))):Rat)=mixS x y m u s:=by rfl
 exact k0 _ _ (s4.trans (s5.trans (s6.trans (s7.trans s8)))) (FQ.cast g_r8 e9)
def sp_behind (K:PySem.W.Frag):Sp:=fun vs H Q _=>∃ (p a c:Addr) (x v:Rat) (m:Int) (p' a' c':Addr) (x' v':Rat) (m':Int) (sh:Addr),vs=[.ref p,.ref p',.ref sh]/\SqT K H p [.ref a,.ref c,.int m]/\FQ K H a x/\FQ K H c v/\FB 1990 x/\FB 1990 v/\1<=m/\m<=10000/\SqT K H p' [.ref a',.ref c',.int m']/\FQ K H a' x'/\FQ K H c' v'/\FB 1990 x'/\FB 1990 v'/\1<=m'/\m'<=10000/\FQ K H sh ((1:Int):Rat)/\∀ (r f1 f2:Addr) (H1:Hp),Same H H1->SqT K H1 r [.ref f1,.ref f2,.int m]->FQ K H1 f1 (mixQ x x' m m')->FQ K H1 f2 (mixQ v v' m m')->Q (.ref r) H1
theorem Y5:FnScope ["one","other","share","place","speed"] ["one","other","share"] (zD (top 27)):=⟨rfl,rfl,rfl,by decide+kernel,rfl,by decide+kernel,by decide+kernel⟩
theorem ok_behind (D:Df K mg "behind" (top 27) ["one","other","share"]) (T:Tx K mg C) (F_mixed:Fn P w K mg base 3 "mixed" ["own","far","weight","mass","share"] (sp_mixed K)):Fn P w K mg base 4 "behind" ["one","other","share"] (sp_behind K):=by
 refine D.ok0 Y5 (fun vs H Q E h=>?_) (fun f cdv A outer s H vs Q E hr h=>?_)
 ·obtain ⟨p,a,c,x,v,m,p',a',c',x',v',m',sh,rfl,_⟩:=h
  rfl
 obtain ⟨p,a,c,x,v,m,p',a',c',x',v',m',sh,rfl,hp,ga,gc,da,dc,m1,m2,hp',ga',gc',da',dc',m1',m2',gsh,k⟩:=h
 refine ⟨_,(zE (zN (i:=3) Y5.nd rfl (Or.inl rfl) (zL F_mixed (by decide) hr (by rfl) zG (zA (zH ix_tup (pv 0) zC (fun _ _=>rfl)) (zA (zH ix_tup (pv 1) zC (fun _ _=>rfl)) (zA (zH ix_tup (pv 0) zC (fun _ _=>rfl)) (zA (zH ix_tup (pv 1) zC (fun _ _=>rfl)) (zA (pv 2) zB)))))))
   (zE (zN (i:=4) Y5.nd rfl (Or.inl rfl) (zL F_mixed (by decide) hr (by rfl) zG (zA (zH ix_tup (pv 0) zC (fun _ _=>rfl)) (zA (zH ix_tup (pv 1) zC (fun _ _=>rfl)) (zA (zH ix_tup (pv 0) zC (fun _ _=>rfl)) (zA (zH ix_tup (pv 1) zC (fun _ _=>rfl)) (zA (pv 2) zB)))))))
   (zF (zM (zR (zA (pv 3) (zA (pv 4) (zA (zH ix_tup (pv 0) zC (fun _ _=>rfl)) zB)))))))),?_⟩
 have ds:FB 64 ((1:Int):Rat):=FB.ofInt (Bd.small (i:=1) (by decide) (by decide)) (by decide)
 refine ⟨_,rfl,p,_,_,_,rfl,rfl,hp,rfl,_,rfl,p',_,_,_,rfl,rfl,hp',rfl,_,rfl,p,_,_,_,rfl,rfl,hp,rfl,_,rfl,p',_,_,_,rfl,rfl,hp',rfl,_,rfl,a,x,a',x',m,m',sh,_,rfl,ga,da,ga',da',m1,m2,m1',m2',gsh,ds,fun r1 H1 s1 g1=>?_⟩
 have hp1:=Kw.Same.tup s1 hp
 have hp1':=Kw.Same.tup s1 hp'
 refine ⟨_,rfl,p,_,_,_,rfl,rfl,hp1,rfl,_,rfl,p',_,_,_,rfl,rfl,hp1',rfl,_,rfl,p,_,_,_,rfl,rfl,hp1,rfl,_,rfl,p',_,_,_,rfl,rfl,hp1',rfl,_,rfl,c,v,c',v',m,m',sh,_,rfl,Kw.Same.tup s1 gc,dc,Kw.Same.tup s1 gc',dc',m1,m2,m1',m2',Kw.Same.tup s1 gsh,ds,fun r2 H2 s2 g2=>?_⟩
 have hp2:=Kw.Same.tup s2 hp1
 refine ⟨_,rfl,_,rfl,_,rfl,p,_,_,_,rfl,rfl,hp2,rfl,by show 3<=sizeLine; decide,?_⟩
 intro p3 n3
 obtain ⟨H3,q3,s3,e3⟩:=newO n3 (.tup [.ref r1,.ref r2,.int m])
 rw [q3]
 clear q3
 exact k p3 r1 r2 H3 (s1.trans (s2.trans s3)) (SqT.of e3) (FQ.cast (Kw.Same.tup (s2.trans s3) g1) (mixS_one _ _ _ _)) (FQ.cast (Kw.Same.tup s3 g2) (mixS_one _ _ _ _))
def ZZ (K:PySem.W.Frag):Sp:=fun vs H Q _=>∃ (p_x:Addr) (x:Rat),vs=[.ref p_x]/\FQ K H p_x x/\FB 3900 x/\(∀ (p_r:Addr) (H1:Hp),Same H H1->FQ K H1 p_r (-x)->Q (.ref p_r) H1)
theorem sc_turned_about:FnScope ["number"] ["number"] (zD (top 52)):=⟨rfl,rfl,rfl,by decide+kernel,rfl,by decide+kernel,by decide+kernel⟩
theorem ok_turned_about (D:Df K mg "turned_about" (top 52) ["number"]) (T:Tx K mg C) (F_minus:Fn P w K mg base 3 "minus" ["one","other"] (Zg K)):Fn P w K mg base 4 "turned_about" ["number"] (ZZ K):=by
 refine D.ok0 sc_turned_about (fun vs H Q E h=>?_) (fun f cdv A outer s H vs Q E hr h=>?_)
 ·obtain ⟨p_x,x,rfl,_⟩:=h
  rfl
 obtain ⟨p_x,x,rfl,g_x,d_x,k0⟩:=h
 refine ⟨_,(zF (zM (zL F_minus (by decide) hr (by rfl) zG (zA (zl (K:=K) rfl (by rfl) T.k_NOUGHT) (zA (pv 0) zB))))),?_⟩
 refine fun N10 hN10=>?_
 have g10:FQ K H N10 (((0:Int)):Rat):=hN10 _
 refine ⟨_,rfl,_,_,_,_,rfl,g10,(FB.mono (FB.ofInt (Bd.small (i:=0) (by decide) (by decide)) (by decide)) (by decide)),g_x,(FB.mono d_x (by decide)),fun p_r11 H11 s11 g_r11=>?_⟩
 have d_r11:FB 3965 (((((0:Int):Rat))) - x):=(FB.mono (FB.sub (FB.ofInt (Bd.small (i:=0) (by decide) (by decide)) (by decide)) d_x) (by decide))
 have e12:((((((0:Int):Rat))) - x):Rat)=-x:=by grind
 exact k0 _ _ s11 (FQ.cast g_r11 e12)
def sp_parted (K:PySem.W.Frag):Sp:=fun vs H Q _=>∃ (z y:V) (a b:Rat × Rat × Option Int),vs=[z,y]/\GoQ K 1990 H z a/\GoQ K 1990 H y b/\(b.2.2=none\/a.2.2≠none)/\FB 1990 (ptd a b).1/\FB 1990 (ptd a b).2/\∀ (r f1 f2:Addr) (ys:List V) (H1:Hp),Same H H1->SqT K H1 r (.ref f1::.ref f2::ys)->FQ K H1 f1 (ptd a b).1->FQ K H1 f2 (ptd a b).2->Q (.ref r) H1
theorem sc_parted:FnScope ["own","far"] ["own","far"] (zD (top 63)):=⟨rfl,rfl,rfl,by decide+kernel,rfl,by decide+kernel,by decide+kernel⟩
theorem ok_parted (D:Df K mg "parted" (top 63) ["own","far"]) (T:Tx K mg C) (F_minus:Fn P w K mg base 3 "minus" ["one","other"] (Zg K)) (F_plus:Fn P w K mg base 2 "plus" ["one","other"] (Z9 K)) (F_turned_about:Fn P w K mg base 4 "turned_about" ["number"] (ZZ K)) (F_behind:Fn P w K mg base 4 "behind" ["one","other","share"] (sp_behind K)):Fn P w K mg base 5 "parted" ["own","far"] (sp_parted K):=by
 refine D.ok0 sc_parted (fun vs H Q E h=>?_) (fun f cdv A outer s H vs Q E hr h=>?_)
 ·obtain ⟨z,y,a,b,rfl,_⟩:=h
  rfl
 obtain ⟨z,y,a,b,rfl,⟨p,pa,pc,rfl,hp,ga,gc,da,dc,wa⟩,⟨p',pa',pc',rfl,hp',ga',gc',da',dc',wb⟩,hn,f1,f2,k⟩:=h
 refine ⟨_,(zE (zh (zQ Jr (zH ix_tup (pv 1) zC (fun _ _=>rfl)) y9 (zS _)) (zF (zM (zR (zA (zL F_minus (by decide) hr (by rfl) zG (zA (zL F_plus (by decide) hr (by rfl) zG (zA (zH ix_tup (pv 1) zC (fun _ _=>rfl)) (zA (zH ix_tup (pv 1) zC (fun _ _=>rfl)) zB))) (zA (zH ix_tup (pv 0) zC (fun _ _=>rfl)) zB))) (zA (zL F_turned_about (by decide) hr (by rfl) zG (zA (zH ix_tup (pv 0) zC (fun _ _=>rfl)) zB)) (zA (zH ix_tup (pv 0) zC (fun _ _=>rfl)) zB)))))) zU)
   (zF (zM (zL F_behind (by decide) hr (by rfl) zG (zA (pv 0) (zA (pv 1) (zA (zl (K:=K) rfl (by rfl) T.k_ALL) zB))))))),?_⟩
 obtain ⟨x,v,om⟩:=a
 obtain ⟨x',v',ou⟩:=b
 cases ou with
 |none=>
  refine ⟨_,rfl,p',_,_,_,rfl,rfl,hp',rfl,rfl,_,rfl,iteT ?_⟩
  refine ⟨_,rfl,p',_,_,_,rfl,rfl,hp',rfl,_,rfl,p',_,_,_,rfl,rfl,hp',rfl,_,_,_,_,rfl,ga',da'.mono (by decide),ga',da'.mono (by decide),fun r1 H1 s1 k1=>?_⟩
  have hp1:=Kw.Same.tup s1 hp
  have d1:FB 3981 (x'+x'):=FB.add da' da'
  refine ⟨_,rfl,p,_,_,_,rfl,rfl,hp1,rfl,r1,_,pa,_,rfl,k1,d1.mono (by decide),Kw.Same.tup s1 ga,da.mono (by decide),fun r2 H2 s2 k2=>?_⟩
  have hp2:=Kw.Same.tup s2 hp1
  refine ⟨_,rfl,p,_,_,_,rfl,rfl,hp2,rfl,pc,_,rfl,Kw.Same.tup (s1.trans s2) gc,dc.mono (by decide),fun r3 H3 s3 k3=>?_⟩
  have hp3:=Kw.Same.tup s3 hp2
  refine ⟨_,rfl,p,_,_,_,rfl,rfl,hp3,rfl,by show 3<=sizeLine; decide,?_⟩
  intro p4 n4
  obtain ⟨H4,q4,s4,e4⟩:=newO n4 (.tup [.ref r2,.ref r3,wV om])
  rw [q4]
  clear q4
  exact k p4 r2 r3 [wV om] H4 (s1.trans (s2.trans (s3.trans s4))) (SqT.of e4) (Kw.Same.tup (s3.trans s4) k2) (Kw.Same.tup s4 k3)
 |some u=>
  cases om with
  |none=>rcases hn with hn|hn<;>exact absurd hn (by simp)
  |some m=>
   have w1:=wa m rfl
   have w2:=wb u rfl
   refine ⟨_,rfl,p',_,_,_,rfl,rfl,hp',rfl,rfl,_,rfl,iteF ?_⟩
   refine ⟨_,rfl,_,rfl,fun N hN=>?_⟩
   have gN:FQ K H N (((1:Int)):Rat):=hN _
   exact ⟨p,pa,pc,x,v,m,p',pa',pc',x',v',u,N,rfl,hp,ga,gc,da,dc,by omega,by omega,hp',ga',gc',da',dc',by omega,by omega,gN,fun r f1 f2 H1 s1 h1 h2 h3=>k r f1 f2 [.int m] H1 s1 h1 h2 h3⟩
def Zb (K:PySem.W.Frag):Sp:=fun vs H Q _=>∃ (z y:V) (a b:Rat × Rat × Option Int),vs=[z,y]/\GoQ K 1990 H z a/\GoQ K 1990 H y b/\(a.2.1<=b.2.1->∀ H1,Same H H1->Q .non H1)/\(¬ a.2.1<=b.2.1->∀ (r:Addr) (H1:Hp),Same H H1->FQ K H1 r ((b.1 - a.1) / (a.2.1 - b.2.1))->Q (.ref r) H1)
theorem Ze:FnScope ["one","other","gain"] ["one","other"] (zD (top 25)):=⟨rfl,rfl,rfl,by decide+kernel,rfl,by decide+kernel,by decide+kernel⟩
theorem ok_joint_moment (D:Df K mg "joint_moment" (top 25) ["one","other"]) (T:Tx K mg C) (F_minus:Fn P w K mg base 3 "minus" ["one","other"] (Zg K)) (F_over:Fn P w K mg base 3 "over" ["one","other"] (sp_over K)):Fn P w K mg base 4 "joint_moment" ["one","other"] (Zb K):=by
 refine D.ok0 Ze (fun vs H Q E h=>?_) (fun f cdv A outer s H vs Q E hr h=>?_)
 ·obtain ⟨z,y,a,b,rfl,_⟩:=h
  rfl
 obtain ⟨z,y,⟨x,v,om⟩,⟨x',v',ou⟩,rfl,⟨p,pa,pc,rfl,hp,ga,gc,da,dc,wa⟩,⟨p',pa',pc',rfl,hp',ga',gc',da',dc',wb⟩,kn,ks⟩:=h
 refine ⟨_,(zE (zN (i:=2) Ze.nd rfl (Or.inl rfl) (zL F_minus (by decide) hr (by rfl) zG (zA (zH ix_tup (pv 0) zC (fun _ _=>rfl)) (zA (zH ix_tup (pv 1) zC (fun _ _=>rfl)) zB))))
   (zE (zh (zQ Jw (zH ix_tup (pv 2) zC (fun _ _=>rfl)) zC (zS _)) (zF (zM y9)) zU)
   (zF (zM (zL F_over (by decide) hr (by rfl) zG (zA (zL F_minus (by decide) hr (by rfl) zG (zA (zH ix_tup (pv 1) zC (fun _ _=>rfl)) (zA (zH ix_tup (pv 0) zC (fun _ _=>rfl)) zB))) (zA (pv 2) zB))))))),?_⟩
 refine ⟨_,rfl,p,_,_,_,rfl,rfl,hp,rfl,_,rfl,p',_,_,_,rfl,rfl,hp',rfl,pc,v,pc',v',rfl,gc,dc.mono (by decide),gc',dc'.mono (by decide),fun r1 H1 s1 g1=>?_⟩
 have g1':SqT K H1 r1 [.int (v - v').num,.int (((v - v').den:Nat):Int)]:=g1
 refine ⟨_,rfl,r1,_,_,_,rfl,rfl,g1',rfl,_,_,rfl,rfl,_,rfl,?_⟩
 refine zb (fun cc=>?_) (fun cc=>?_)
 ·have:=(q_le0 (v - v')).mp cc
  exact kn (by dsimp only; grind) H1 s1
 ·have pos:=mt (q_le0 (v - v')).mpr cc
  have hp1:=Kw.Same.tup s1 hp
  have hp1':=Kw.Same.tup s1 hp'
  refine ⟨_,rfl,p',_,_,_,rfl,rfl,hp1',rfl,_,rfl,p,_,_,_,rfl,rfl,hp1,rfl,pa',x',pa,x,rfl,Kw.Same.tup s1 ga',da'.mono (by decide),Kw.Same.tup s1 ga,da.mono (by decide),fun r2 H2 s2 g2=>?_⟩
  refine ⟨_,rfl,r2,_,r1,_,rfl,g2,(FB.sub da' da).mono (by decide),Kw.Same.tup s2 g1,(FB.sub dc dc').mono (by decide),(by dsimp only at *; grind),fun r3 H3 s3 g3=>?_⟩
  exact ks (by dsimp only; grind) r3 H3 (s1.trans (s2.trans s3)) g3
def jY (K:PySem.W.Frag) (C:Addr):Sp:=fun vs H Q _=>∃ (p pb l:Addr) (R:Rat × Rat) (gs:List Bq) (dx:Addr) (fs:List (Str × V)) (wl g:Addr) (xs:List V) (q:Pr) (ys:List V) (bs:List Bq) (N:Nat),vs=[.ref p,.ref pb,.ref l]/\PlG K H C p R gs dx fs wl g xs/\H pb=some (.tup ((keyP q).map kV))/\H l=some (.lst ys)/\Al2 (BqH K N H) ys bs/\InP bs.length q/\1990<=N/\∀ (v:V) (H1:Hp),Same H H1->BqH K N H1 v (boxB R bs q.1 q.2.1)->Q v H1
theorem sc_Plane_one_of:FnScope ["self","pair","boxes"] ["self","pair","boxes"] (zD (zP (top 65) 1)):=⟨rfl,rfl,rfl,by decide+kernel,rfl,by decide+kernel,by decide+kernel⟩
theorem ok_Plane_one_of (D:DfM K (C 0) "one_of" "Plane.one_of" (zP (top 65) 1) ["self","pair","boxes"]) (T:Tx K mg C):FnM P w K mg base 1 (C 0) "one_of" ["self","pair","boxes"] (jY K (C 0)):=by
 refine D.ok0 sc_Plane_one_of (fun vs H Q E h=>?_) (fun f cdv A outer s H vs Q E hr h=>?_)
 ·obtain ⟨p,pb,l,R,gs,dx,fs,wl,g,xs,q,ys,bs,N,rfl,_⟩:=h
  rfl
 obtain ⟨p,pb,l,R,gs,dx,fs,wl,g,xs,q,ys,bs,N,rfl,pg,hb,hl,al,hin,hN,k⟩:=h
 refine ⟨_,(zF (zM (J6 (zQ YU (zH ix_tup (pv 1) zC (fun _ _=>rfl)) zC (zS _)) (zH ix_list (pv 2) (zH ix_tup (pv 1) zC (fun _ _=>rfl)) (fun _ _=>rfl)) (ZS (YC (u100 hr)) (zT T.cl_Plane T.n_Plane_walls (pv 0)) (zR (zA (zH ix_tup (pv 1) zC (fun _ _=>rfl)) (zA (zH ix_tup (pv 1) zC (fun _ _=>rfl)) zB))) (fun _ _=>rfl))))),?_⟩
 have hq:SqT K H pb [.int (q.1:Int),.int q.2.1,.int q.2.2]:=SqT.of hb
 have hz:=Al2.len al
 refine ⟨_,rfl,pb,_,_,_,rfl,rfl,hq,rfl,_,_,rfl,rfl,_,rfl,?_⟩
 refine zb (fun c=>?_) (fun c=>?_)
 ·obtain ⟨i,hi,ei⟩:∃ i,i < bs.length/\q.2.1=(i:Int):=by
   rcases hin.2.1 with z|z
   ·rw [z] at c
    exact absurd c (by decide)
   ·exact z
  obtain ⟨y,hy⟩:∃ y,ys[i]?=some y:=⟨_,List.getElem?_eq_getElem (by omega)⟩
  obtain ⟨b,hb',hyb⟩:=Al2.get al hy
  have e:boxB R bs q.1 q.2.1=b:=by
   unfold boxB bxAt
   rw [if_pos c,ei,Int.toNat_natCast,List.getD_eq_getElem?_getD,hb']
   rfl
  refine ⟨_,rfl,_,rfl,pb,_,_,_,rfl,rfl,hq,rfl,l,_,_,_,rfl,rfl,SqL.of hl,by rw [ei]; exact zr hy,?_⟩
  exact k y H (Same.refl _) (by rw [e]; exact hyb)
 ·have ci:q.2.1=-1\/q.2.1=-2:=by
   rcases hin.2.1 with z|⟨i,_,z⟩
   ·exact .inl z
   ·exact absurd (show 0<=q.2.1 by omega) c
  have e:boxB R bs q.1 q.2.1=jT R q.1 q.2.1:=by
   unfold boxB
   rw [if_neg c]
  refine ⟨_,rfl,p,_,_,_,rfl,pg.ob,pg.fw,_,rfl,pb,_,_,_,rfl,rfl,hq,rfl,_,rfl,pb,_,_,_,rfl,rfl,hq,rfl,by show 2<=sizeLine; decide,?_⟩
  intro p1 n1
  obtain ⟨H1,q1,s1,e1⟩:=newO n1 (.tup [.int (q.1:Int),.int q.2.1])
  rw [q1]
  clear q1
  obtain ⟨w,kvs,hw,hv,hb'⟩:=(pg.ws.same s1).get (d:=q.1) (i:=q.2.1) hin.1 ci
  refine ⟨wl,w,rfl,?_,k w H1 s1 (by rw [e]; exact hb'.mono hN)⟩
  have z:=DGet.t (k:=keyW q.1 q.2.1) hw (b:=p1) e1
  rw [hv] at z
  exact z
def yy (K:PySem.W.Frag) (C:Addr):Sp:=fun vs H Q _=>∃ (p pb l:Addr) (R:Rat × Rat) (gs:List Bq) (dx:Addr) (fs:List (Str × V)) (wl g:Addr) (xs:List V) (q:Pr) (ys:List V) (bs:List Bq) (N:Nat),vs=[.ref p,.ref pb,.ref l]/\PlG K H C p R gs dx fs wl g xs/\H pb=some (.tup ((keyP q).map kV))/\H l=some (.lst ys)/\Al2 (BqH K N H) ys bs/\InP bs.length q/\1990<=N/\∀ (v:V) (H1:Hp),Same H H1->BqH K N H1 v (boxB R bs q.1 q.2.2)->Q v H1
theorem sc_Plane_other_of:FnScope ["self","pair","boxes"] ["self","pair","boxes"] (zD (zP (top 65) 2)):=⟨rfl,rfl,rfl,by decide+kernel,rfl,by decide+kernel,by decide+kernel⟩
theorem ok_Plane_other_of (D:DfM K (C 0) "other_of" "Plane.other_of" (zP (top 65) 2) ["self","pair","boxes"]) (T:Tx K mg C):FnM P w K mg base 1 (C 0) "other_of" ["self","pair","boxes"] (yy K (C 0)):=by
 refine D.ok0 sc_Plane_other_of (fun vs H Q E h=>?_) (fun f cdv A outer s H vs Q E hr h=>?_)
 ·obtain ⟨p,pb,l,R,gs,dx,fs,wl,g,xs,q,ys,bs,N,rfl,_⟩:=h
  rfl
 obtain ⟨p,pb,l,R,gs,dx,fs,wl,g,xs,q,ys,bs,N,rfl,pg,hb,hl,al,hin,hN,k⟩:=h
 refine ⟨_,(zF (zM (J6 (zQ YU (zH ix_tup (pv 1) zC (fun _ _=>rfl)) zC (zS _)) (zH ix_list (pv 2) (zH ix_tup (pv 1) zC (fun _ _=>rfl)) (fun _ _=>rfl)) (ZS (YC (u100 hr)) (zT T.cl_Plane T.n_Plane_walls (pv 0)) (zR (zA (zH ix_tup (pv 1) zC (fun _ _=>rfl)) (zA (zH ix_tup (pv 1) zC (fun _ _=>rfl)) zB))) (fun _ _=>rfl))))),?_⟩
 have hq:SqT K H pb [.int (q.1:Int),.int q.2.1,.int q.2.2]:=SqT.of hb
 have hz:=Al2.len al
 refine ⟨_,rfl,pb,_,_,_,rfl,rfl,hq,rfl,_,_,rfl,rfl,_,rfl,?_⟩
 refine zb (fun c=>?_) (fun c=>?_)
 ·obtain ⟨i,hi,ei⟩:∃ i,i < bs.length/\q.2.2=(i:Int):=by
   rcases hin.2.2.1 with z|z
   ·rw [z] at c
    exact absurd c (by decide)
   ·exact z
  obtain ⟨y,hy⟩:∃ y,ys[i]?=some y:=⟨_,List.getElem?_eq_getElem (by omega)⟩
  obtain ⟨b,hb',hyb⟩:=Al2.get al hy
  have e:boxB R bs q.1 q.2.2=b:=by
   unfold boxB bxAt
   rw [if_pos c,ei,Int.toNat_natCast,List.getD_eq_getElem?_getD,hb']
   rfl
  refine ⟨_,rfl,_,rfl,pb,_,_,_,rfl,rfl,hq,rfl,l,_,_,_,rfl,rfl,SqL.of hl,by rw [ei]; exact zr hy,?_⟩
  exact k y H (Same.refl _) (by rw [e]; exact hyb)
 ·have ci:q.2.2=-1\/q.2.2=-2:=by
   rcases hin.2.2.1 with z|⟨i,_,z⟩
   ·exact .inr z
   ·exact absurd (show 0<=q.2.2 by omega) c
  have e:boxB R bs q.1 q.2.2=jT R q.1 q.2.2:=by
   unfold boxB
   rw [if_neg c]
  refine ⟨_,rfl,p,_,_,_,rfl,pg.ob,pg.fw,_,rfl,pb,_,_,_,rfl,rfl,hq,rfl,_,rfl,pb,_,_,_,rfl,rfl,hq,rfl,by show 2<=sizeLine; decide,?_⟩
  intro p1 n1
  obtain ⟨H1,q1,s1,e1⟩:=newO n1 (.tup [.int (q.1:Int),.int q.2.2])
  rw [q1]
  clear q1
  obtain ⟨w,kvs,hw,hv,hb'⟩:=(pg.ws.same s1).get (d:=q.1) (i:=q.2.2) hin.1 ci
  refine ⟨wl,w,rfl,?_,k w H1 s1 (by rw [e]; exact hb'.mono hN)⟩
  have z:=DGet.t (k:=keyW q.1 q.2.2) hw (b:=p1) e1
  rw [hv] at z
  exact z
def ZV (K:PySem.W.Frag) (C:Addr):Sp:=fun vs H Q _=>∃ (p pb:Addr) (R:Rat × Rat) (gs:List Bq) (dx:Addr) (fs:List (Str × V)) (wl g:Addr) (xs:List V) (q:Pr),vs=[.ref p,.ref pb]/\PlG K H C p R gs dx fs wl g xs/\H pb=some (.tup ((keyP q).map kV))/\InP gs.length q/\FB 1990 ((boxB R gs q.1 q.2.1).far q.1)/\(∀ t,jntP R gs q=some t->FB 2000 t)/\∀ (v:V) (H1:Hp),Same H H1->OptB K H1 v (jntP R gs q)->Q v H1
theorem y7:FnScope ["self","pair","one","other"] ["self","pair"] (zD (zP (top 65) 3)):=⟨rfl,rfl,rfl,by decide+kernel,rfl,by decide+kernel,by decide+kernel⟩
theorem ok_Plane_joint_of (D:DfM K (C 0) "joint_of" "Plane.joint_of" (zP (top 65) 3) ["self","pair"]) (T:Tx K mg C) (F_far_going:Fn P w K mg base 4 "far_going" ["box","way"] (ZN K)) (F_Plane_one_of:FnM P w K mg base 1 (C 0) "one_of" ["self","pair","boxes"] (jY K (C 0))) (F_near_going:Fn P w K mg base 1 "near_going" ["box","way"] (jq K)) (F_Plane_other_of:FnM P w K mg base 1 (C 0) "other_of" ["self","pair","boxes"] (yy K (C 0))) (F_joint_moment:Fn P w K mg base 4 "joint_moment" ["one","other"] (Zb K)):FnM P w K mg base 5 (C 0) "joint_of" ["self","pair"] (ZV K (C 0)):=by
 refine D.ok0 y7 (fun vs H Q E h=>?_) (fun f cdv A outer s H vs Q E hr h=>?_)
 ·obtain ⟨p,pb,R,gs,dx,fs,wl,g,xs,q,rfl,_⟩:=h
  rfl
 obtain ⟨p,pb,R,gs,dx,fs,wl,g,xs,q,rfl,pg,hb,hin,fb,ft,k⟩:=h
 refine ⟨_,(zE (zN (i:=2) y7.nd rfl (Or.inl rfl) (zL F_far_going (by decide) hr (by rfl) zG (zA (yb T.cl_Plane F_Plane_one_of (by decide) hr zG (pv 0) (zA (pv 1) (zA (zT T.cl_Plane T.n_Plane_goings (pv 0)) zB))) (zA (zH ix_tup (pv 1) zC (fun _ _=>rfl)) zB))))
   (zE (zN (i:=3) y7.nd rfl (Or.inl rfl) (zL F_near_going (by decide) hr (by rfl) zG (zA (yb T.cl_Plane F_Plane_other_of (by decide) hr zG (pv 0) (zA (pv 1) (zA (zT T.cl_Plane T.n_Plane_goings (pv 0)) zB))) (zA (zH ix_tup (pv 1) zC (fun _ _=>rfl)) zB))))
   (zF (zM (zL F_joint_moment (by decide) hr (by rfl) zG (zA (pv 2) (zA (pv 3) zB))))))),?_⟩
 have hq:SqT K H pb [.int (q.1:Int),.int q.2.1,.int q.2.2]:=SqT.of hb
 refine ⟨_,rfl,p,_,_,rfl,pg.ob,pg.nm.one_of,_,rfl,_,rfl,p,_,_,_,rfl,pg.ob,pg.fg,p,pb,g,R,gs,dx,fs,wl,g,xs,q,xs,gs,1990,rfl,pg,hb,pg.hg,pg.al,hin,Nat.le_refl _,fun v1 H1 s1 k1=>?_⟩
 have hq1:=Kw.Same.tup s1 hq
 refine ⟨_,rfl,pb,_,_,_,rfl,rfl,hq1,rfl,v1,_,q.1,rfl,k1,hin.1,fb,fun r2 H2 s2 k2=>?_⟩
 have s12:=s1.trans s2
 have pg2:=pg.same s12
 refine ⟨_,rfl,p,_,_,rfl,pg2.ob,pg2.nm.other_of,_,rfl,_,rfl,p,_,_,_,rfl,pg2.ob,pg2.fg,p,pb,g,R,gs,dx,fs,wl,g,xs,q,xs,gs,1990,rfl,pg2,s12 _ _ hb,pg2.hg,pg2.al,hin,Nat.le_refl _,fun v3 H3 s3 k3=>?_⟩
 have s13:=s12.trans s3
 have hq3:=Kw.Same.tup s13 hq
 refine ⟨_,rfl,pb,_,_,_,rfl,rfl,hq3,rfl,v3,_,q.1,rfl,k3,hin.1,fun r4 H4 s4 k4=>?_⟩
 have s14:=s13.trans s4
 refine ⟨_,rfl,_,rfl,_,_,farG (boxB R gs q.1 q.2.1) q.1,yA (boxB R gs q.1 q.2.2) q.1,rfl,k2.same (s3.trans s4),k4,fun c H5 s5=>?_,fun c r5 H5 s5 g5=>?_⟩
 ·refine k _ H5 (s14.trans s5) (.inl ⟨?_,rfl⟩)
  unfold jntP
  exact if_pos c
 ·have e:jntP R gs q=some (((boxB R gs q.1 q.2.2).pl q.1 - (boxB R gs q.1 q.2.1).far q.1) / ((boxB R gs q.1 q.2.1).sp q.1 - (boxB R gs q.1 q.2.2).sp q.1)):=by
   unfold jntP
   exact if_neg c
  exact k _ H5 (s14.trans s5) (.inr ⟨_,r5,e,rfl,g5,ft _ e⟩)
def JL (K:PySem.W.Frag) (C:Addr):Sp:=fun vs H Q _=>∃ (p pb pt:Addr) (R:Rat × Rat) (gs:List Bq) (dx:Addr) (fs:List (Str × V)) (wl g:Addr) (xs:List V) (q:Pr) (t:Rat),vs=[.ref p,.ref pb,.ref pt]/\PlG K H C p R gs dx fs wl g xs/\H pb=some (.tup ((keyP q).map kV))/\InP gs.length q/\FQ K H pt t/\FB 2000 t/\∀ (H1:Hp),Same H H1->Q (.bl (metP R gs t q)) H1
theorem jB:FnScope ["self","pair","moment","one","other"] ["self","pair","moment"] (zD (zP (top 65) 8)):=⟨rfl,rfl,rfl,by decide+kernel,rfl,by decide+kernel,by decide+kernel⟩
theorem ok_Plane_meet_at (D:DfM K (C 0) "meet_at" "Plane.meet_at" (zP (top 65) 8) ["self","pair","moment"]) (T:Tx K mg C) (F_box_at:Fn P w K mg base 4 "box_at" ["box","moment"] (Y3 K)) (F_Plane_one_of:FnM P w K mg base 1 (C 0) "one_of" ["self","pair","boxes"] (jY K (C 0))) (F_Plane_other_of:FnM P w K mg base 1 (C 0) "other_of" ["self","pair","boxes"] (yy K (C 0))) (F_have_in_common:Fn P w K mg base 4 "have_in_common" ["one","other","way"] (yP K)):FnM P w K mg base 5 (C 0) "meet_at" ["self","pair","moment"] (JL K (C 0)):=by
 refine D.ok0 jB (fun vs H Q E h=>?_) (fun f cdv A outer s H vs Q E hr h=>?_)
 ·obtain ⟨p,pb,pt,R,gs,dx,fs,wl,g,xs,q,t,rfl,_⟩:=h
  rfl
 obtain ⟨p,pb,pt,R,gs,dx,fs,wl,g,xs,q,t,rfl,pg,hb,hin,gt,dt,k⟩:=h
 refine ⟨_,(zE (zN (i:=3) jB.nd rfl (Or.inl rfl) (zL F_box_at (by decide) hr (by rfl) zG (zA (yb T.cl_Plane F_Plane_one_of (by decide) hr zG (pv 0) (zA (pv 1) (zA (zT T.cl_Plane T.n_Plane_goings (pv 0)) zB))) (zA (pv 2) zB))))
   (zE (zN (i:=4) jB.nd rfl (Or.inl rfl) (zL F_box_at (by decide) hr (by rfl) zG (zA (yb T.cl_Plane F_Plane_other_of (by decide) hr zG (pv 0) (zA (pv 1) (zA (zT T.cl_Plane T.n_Plane_goings (pv 0)) zB))) (zA (pv 2) zB))))
   (zF (zM (zL F_have_in_common (by decide) hr (by rfl) zG (zA (pv 3) (zA (pv 4) (zA (zO Zu zC (zH ix_tup (pv 1) zC (fun _ _=>rfl))) zB)))))))),?_⟩
 have hq:SqT K H pb [.int (q.1:Int),.int q.2.1,.int q.2.2]:=SqT.of hb
 refine ⟨_,rfl,p,_,_,rfl,pg.ob,pg.nm.one_of,_,rfl,_,rfl,p,_,_,_,rfl,pg.ob,pg.fg,p,pb,g,R,gs,dx,fs,wl,g,xs,q,xs,gs,1990,rfl,pg,hb,pg.hg,pg.al,hin,Nat.le_refl _,fun v1 H1 s1 k1=>?_⟩
 refine ⟨_,rfl,v1,_,pt,t,rfl,k1,Kw.Same.tup s1 gt,dt,fun r2 H2 s2 k2=>?_⟩
 have s12:=s1.trans s2
 have pg2:=pg.same s12
 refine ⟨_,rfl,p,_,_,rfl,pg2.ob,pg2.nm.other_of,_,rfl,_,rfl,p,_,_,_,rfl,pg2.ob,pg2.fg,p,pb,g,R,gs,dx,fs,wl,g,xs,q,xs,gs,1990,rfl,pg2,s12 _ _ hb,pg2.hg,pg2.al,hin,Nat.le_refl _,fun v3 H3 s3 k3=>?_⟩
 have s13:=s12.trans s3
 refine ⟨_,rfl,v3,_,pt,t,rfl,k3,Kw.Same.tup s13 gt,dt,fun r4 H4 s4 k4=>?_⟩
 have s14:=s13.trans s4
 have hq4:=Kw.Same.tup s14 hq
 refine ⟨_,rfl,_,rfl,_,rfl,pb,_,_,_,rfl,rfl,hq4,rfl,_,_,rfl,rfl,_,_,_,_,1 - q.1,?_,k2.same (s3.trans s4),k4,by omega,fun H5 s5=>k H5 (s14.trans s5)⟩
 have h1:=hin.1
 rw [show ((1 - q.1:Nat):Int)=1 - (q.1:Int) by omega]
 rfl
def yM (K:PySem.W.Frag) (C:Addr):Sp:=fun vs H Q _=>∃ (p pb:Addr) (R:Rat × Rat) (gs:List Bq) (dx:Addr) (fs:List (Str × V)) (j:Addr) (kvs:List (List Key × V)) (q:Pr),vs=[.ref p,.ref pb]/\H p=some (.ins C dx fs)/\PlJ K H R gs fs j kvs/\H pb=some (.tup ((keyP q).map kV))/\InP gs.length q/\∀ (H1:Hp),Same H H1->Q (.bl (corP R gs q)) H1
theorem yS:FnScope ["self","pair","aside"] ["self","pair"] (zD (zP (top 65) 9)):=⟨rfl,rfl,rfl,by decide+kernel,rfl,by decide+kernel,by decide+kernel⟩
theorem ok_Plane_close_at_a_corner (D:DfM K (C 0) "close_at_a_corner" "Plane.close_at_a_corner" (zP (top 65) 9) ["self","pair"]) (T:Tx K mg C):FnM P w K mg base 1 (C 0) "close_at_a_corner" ["self","pair"] (yM K (C 0)):=by
 refine D.ok0 yS (fun vs H Q E h=>?_) (fun f cdv A outer s H vs Q E hr h=>?_)
 ·obtain ⟨p,pb,R,gs,dx,fs,j,kvs,q,rfl,_⟩:=h
  rfl
 obtain ⟨p,pb,R,gs,dx,fs,j,kvs,q,rfl,hp,pj,hb,hin,k⟩:=h
 refine ⟨_,(zE (zh (jM (zQ Yh (zH ix_tup (pv 1) zC (fun _ _=>rfl)) zC (zS _)) (ym (zQ Yh (zH ix_tup (pv 1) zC (fun _ _=>rfl)) zC (zS _)))).pt (zF (zM jN)) zU)
   (zE (zN (i:=2) yS.nd rfl (Or.inl rfl) (zO Zu zC (zH ix_tup (pv 1) zC (fun _ _=>rfl))))
   (zF (zM (yg (op_inOB (K:=K) rfl (u100 hr)) (ZS (YC (u100 hr)) (zT T.cl_Plane T.n_Plane_joints (pv 0)) (pv 1) (fun _ _=>rfl)) (zR (zA (ZS (YC (u100 hr)) (zT T.cl_Plane T.n_Plane_joints (pv 0)) (zR (zA (pv 2) (zA (zH ix_tup (pv 1) zC (fun _ _=>rfl)) (zA (zH ix_tup (pv 1) zC (fun _ _=>rfl)) zB)))) (fun _ _=>rfl)) (zA (ZS (YC (u100 hr)) (zT T.cl_Plane T.n_Plane_joints (pv 0)) (zR (zA (pv 2) (zA (zH ix_tup (pv 1) zC (fun _ _=>rfl)) (zA (zH ix_tup (pv 1) zC (fun _ _=>rfl)) zB)))) (fun _ _=>rfl)) zB))) (by first|rfl|with_unfolding_all rfl)))))),?_⟩
 have hq:SqT K H pb [.int (q.1:Int),.int q.2.1,.int q.2.2]:=SqT.of hb
 unfold corP at k
 have h1:=hin.1
 have get:∀ {H1:Hp} {b:Addr} {q':Pr},Same H H1->InP gs.length q'->H1 b=some (.tup ((keyP q').map kV))->∃ v,DGet H1 j (.ref b) (some v)/\OptB K H1 v (jntP R gs q'):=fun {H1 b q'} s1 hi hb'=>by
  obtain ⟨v,e1,e2⟩:=(pj.same s1).get (yK.mpr hi)
  exact ⟨v,.inr ⟨kvs,keyP q',b,(pj.same s1).hj,rfl,hb',e1.symm⟩,e2⟩
 refine cut1 (fun σ' H'=>σ'=[some (.ref p),some (.ref pb),none]/\H'=H/\0<=q.2.1/\0<=q.2.2) (fun N hN=>?_) ?_
 ·refine ⟨_,rfl,pb,_,_,_,rfl,rfl,hq,rfl,_,_,rfl,rfl,_,rfl,?_⟩
  refine zb (fun c=>?_) (fun c=>?_)
  ·refine iteT ?_
   have z:=k H (Same.refl _)
   rw [decide_eq_false (show ¬ 0<=q.2.1 by omega),Bool.false_and] at z
   exact z
  ·refine ⟨_,rfl,pb,_,_,_,rfl,rfl,hq,rfl,_,_,rfl,rfl,_,rfl,?_⟩
   refine zb (fun c2=>?_) (fun c2=>?_)
   ·have z:=k H (Same.refl _)
    rw [decide_eq_true (show 0<=q.2.1 by omega),decide_eq_false (show ¬ 0<=q.2.2 by omega),Bool.false_and,Bool.and_false] at z
    exact z
   ·exact hN _ _ ⟨rfl,rfl,by omega,by omega⟩
 rintro σ' H' ⟨rfl,rfl,c1,c2⟩
 rw [decide_eq_true c1,decide_eq_true c2,Bool.true_and,Bool.true_and] at k
 refine ⟨_,rfl,pb,_,_,_,rfl,rfl,hq,rfl,_,_,rfl,rfl,?_⟩
 obtain ⟨v0,d0,o0⟩:=get (Same.refl _) hin hb
 refine ⟨_,rfl,p,_,_,_,rfl,hp,pj.fj,_,rfl,j,v0,rfl,d0,?_⟩
 have i1:InP gs.length (1 - q.1,q.2.1,q.2.2):=⟨by show 1 - q.1<=1; omega,hin.2⟩
 have i2:InP gs.length (1 - q.1,q.2.2,q.2.1):=by
  refine ⟨by show 1 - q.1<=1; omega,.inr ?_,.inr ?_,Ne.symm hin.2.2.2.1,.inl c2⟩
  ·rcases hin.2.2.1 with z|z
   ·exact absurd c2 (by rw [z]; decide)
   ·exact z
  ·rcases hin.2.1 with z|z
   ·exact absurd c1 (by rw [z]; decide)
   ·exact z
 have ed:(1:Int) - (q.1:Int)=((1 - q.1:Nat):Int):=by omega
 refine ⟨_,rfl,p,_,_,_,rfl,hp,pj.fj,_,rfl,_,rfl,pb,_,_,_,rfl,rfl,hq,rfl,_,rfl,pb,_,_,_,rfl,rfl,hq,rfl,by show 3<=sizeLine; decide,?_⟩
 intro p1 n1
 obtain ⟨H1,q1,s1,e1⟩:=newO n1 (.tup [.int (1 - (q.1:Int)),.int q.2.1,.int q.2.2])
 rw [q1]
 clear q1
 have e1':H1 p1=some (.tup ((keyP (1 - q.1,q.2.1,q.2.2)).map kV)):=by
  rw [e1,ed]
  rfl
 obtain ⟨v1,d1,o1⟩:=get s1 i1 e1'
 have hq1:=Kw.Same.tup s1 hq
 refine ⟨j,v1,rfl,d1,_,rfl,p,_,_,_,rfl,s1 _ _ hp,pj.fj,_,rfl,_,rfl,pb,_,_,_,rfl,rfl,hq1,rfl,_,rfl,pb,_,_,_,rfl,rfl,hq1,rfl,by show 3<=sizeLine; decide,?_⟩
 intro p2 n2
 obtain ⟨H2,q2,s2,e2⟩:=newO n2 (.tup [.int (1 - (q.1:Int)),.int q.2.2,.int q.2.1])
 rw [q2]
 clear q2
 have s12:=s1.trans s2
 have e2':H2 p2=some (.tup ((keyP (1 - q.1,q.2.2,q.2.1)).map kV)):=by
  rw [e2,ed]
  rfl
 obtain ⟨v2,d2,o2⟩:=get s12 i2 e2'
 refine ⟨j,v2,rfl,d2,by show 2<=sizeLine; decide,?_⟩
 intro p3 n3
 obtain ⟨H3,q3,s3,e3⟩:=newO n3 (.tup [v1,v2])
 rw [q3]
 clear q3
 have s13:=s12.trans s3
 exact ⟨p3,v1,v2,_,_,_,rfl,SqT.of e3,o0.same s13,o1.same (s2.trans s3),o2.same s3,k H3 s13⟩
def YD (K:PySem.W.Frag) (C:Addr):Sp:=fun vs H Q _=>∃ (p dx:Addr) (v:V) (now:Rat) (c o:Option Rat) (fs:List (Str × V)) (nw:Addr) (co:V),vs=[.ref p,v]/\H p=some (.ins C dx fs)/\PlC K H now c fs nw co/\OptB K H v o/\∀ (H1:Hp),Same H H1->Q (.bl (Zd now c o)) H1
theorem sc_Plane_is_sooner:FnScope ["self","moment"] ["self","moment"] (zD (zP (top 65) 6)):=⟨rfl,rfl,rfl,by decide+kernel,rfl,by decide+kernel,by decide+kernel⟩
theorem ok_Plane_is_sooner (D:DfM K (C 0) "is_sooner" "Plane.is_sooner" (zP (top 65) 6) ["self","moment"]) (T:Tx K mg C) (F_under:Fn P w K mg base 1 "under" ["one","other"] (Zy K)):FnM P w K mg base 2 (C 0) "is_sooner" ["self","moment"] (YD K (C 0)):=by
 refine D.ok0 sc_Plane_is_sooner (fun vs H Q E h=>?_) (fun f cdv A outer s H vs Q E hr h=>?_)
 ·obtain ⟨p,dx,v,now,c,o,fs,nw,co,rfl,_⟩:=h
  rfl
 obtain ⟨p,dx,v,now,c,o,fs,nw,co,rfl,hp,pc,ov,k⟩:=h
 refine ⟨_,(zE (zh (jM (zQ Jr (pv 1) y9 (zS _)) (ym (zn (zL F_under (by decide) hr (by rfl) zG (zA (pv 1) (zA (zT T.cl_Plane T.n_Plane_now (pv 0)) zB))) (fun _=>rfl)))).pt (zF (zM jN)) zU)
   (zF (zM (pe_or (yg Jr (zT T.cl_Plane T.n_Plane_coming (pv 0)) y9 (zS _)) (yR (zL F_under (by decide) hr (by rfl) zG (zA (pv 1) (zA (zT T.cl_Plane T.n_Plane_coming (pv 0)) zB)))))))),?_⟩
 rcases ov with ⟨rfl,rfl⟩|⟨t,pt,rfl,rfl,gt,dt⟩
 ·refine ⟨_,rfl,rfl,_,rfl,iteT ?_⟩
  refine iteT ?_
  exact k H (Same.refl _)
 ·refine ⟨_,rfl,rfl,_,rfl,iteF ?_⟩
  refine ⟨_,rfl,_,rfl,p,_,_,_,rfl,hp,pc.fn,pt,t,nw,now,rfl,gt,dt.mono (by decide),pc.gn,pc.dn.mono (by decide),fun H1 s1=>⟨_,rfl,?_⟩⟩
  refine zb (fun lt=>?_) (fun lt=>?_)
  ·have z:=k H1 s1
   unfold Zd at z
   dsimp only at z
   rw [if_pos lt] at z
   exact z
  ·unfold Zd at k
   dsimp only at k
   rw [if_neg lt] at k
   have pc1:=pc.same s1
   refine ⟨_,rfl,p,_,_,_,rfl,s1 _ _ hp,pc1.fc,rfl,_,rfl,?_⟩
   rcases pc1.oc with ⟨ec,eo⟩|⟨sq,ps,ec,eo,gs',ds⟩
   ·rw [ec] at k
    rw [eo]
    exact iteT (k H1 s1)
   ·rw [ec] at k
    rw [eo]
    refine iteF ?_
    exact ⟨_,rfl,_,rfl,p,_,_,_,rfl,s1 _ _ hp,pc1.fc.trans (by rw [eo]),pt,t,ps,sq,rfl,Kw.Same.tup s1 gt,dt.mono (by decide),gs',ds.mono (by decide),fun H2 s2=>k H2 (s1.trans s2)⟩
def jx (K:PySem.W.Frag) (C:Addr):Sp:=fun vs H Q _=>∃ (p pb:Addr) (R:Rat × Rat) (gs:List Bq) (dx:Addr) (fs:List (Str × V)) (j:Addr) (kvs:List (List Key × V)) (q:Pr) (c:Option Rat) (co:V),vs=[.ref p,.ref pb]/\H p=some (.ins C dx fs)/\PlJ K H R gs fs j kvs/\H pb=some (.tup ((keyP q).map kV))/\InP gs.length q/\fs.lookup ("coming" : Str)=some co/\OptB K H co c/\Q (.bl (cmgP R gs c q)) H
theorem sc_Plane_is_coming:FnScope ["self","pair"] ["self","pair"] (zD (zP (top 65) 7)):=⟨rfl,rfl,rfl,by decide+kernel,rfl,by decide+kernel,by decide+kernel⟩
theorem ok_Plane_is_coming (D:DfM K (C 0) "is_coming" "Plane.is_coming" (zP (top 65) 7) ["self","pair"]) (T:Tx K mg C):FnM P w K mg base 1 (C 0) "is_coming" ["self","pair"] (jx K (C 0)):=by
 refine D.ok0 sc_Plane_is_coming (fun vs H Q E h=>?_) (fun f cdv A outer s H vs Q E hr h=>?_)
 ·obtain ⟨p,pb,R,gs,dx,fs,j,kvs,q,c,co,rfl,_⟩:=h
  rfl
 obtain ⟨p,pb,R,gs,dx,fs,j,kvs,q,c,co,rfl,hp,pj,hb,hin,fc,oc,k⟩:=h
 refine ⟨_,(zF (zM (yd (yg op_notN (zT T.cl_Plane T.n_Plane_coming (pv 0)) y9 (zS _)) (yR (yg (op_eqOB (K:=K) rfl (u100 hr)) (ZS (YC (u100 hr)) (zT T.cl_Plane T.n_Plane_joints (pv 0)) (pv 1) (fun _ _=>rfl)) (zT T.cl_Plane T.n_Plane_coming (pv 0)) (zS _)))))),?_⟩
 unfold cmgP at k
 refine ⟨_,rfl,p,_,_,_,rfl,hp,fc,rfl,_,rfl,?_⟩
 rcases id oc with ⟨ec,eo⟩|⟨sq,ps,ec,eo,gs',ds⟩
 ·rw [decide_eq_false (fun z=>z ec),Bool.false_and] at k
  rw [eo]
  exact iteF k
 ·rw [decide_eq_true (show c≠none by rw [ec]; exact fun z=>nomatch z),Bool.true_and] at k
  obtain ⟨v,e1,e2⟩:=pj.get (yK.mpr hin)
  rw [show (!decide (co=V.non))=true by rw [eo]; rfl]
  refine iteT ?_
  exact ⟨_,rfl,p,_,_,_,rfl,hp,pj.fj,_,rfl,j,v,rfl,.inr ⟨kvs,keyP q,pb,pj.hj,rfl,hb,e1.symm⟩,_,rfl,p,_,_,_,rfl,hp,fc,_,_,e2,oc,k⟩
def jc (K:PySem.W.Frag) (C:Addr):Sp:=fun vs H Q _=>∃ (p:Addr) (R:Rat × Rat) (gs:List Bq) (dx:Addr) (fs:List (Str × V)) (wl g:Addr) (xs:List V) (j:Addr) (kvs:List (List Key × V)) (nw:Addr) (now:Rat),vs=[.ref p]/\PlG K H C p R gs dx fs wl g xs/\PlJ K H R gs fs j kvs/\H j=some (.dT kvs)/\wl≠j/\fs.lookup ("now" : Str)=some (.ref nw)/\FQ K H nw now/\FB 2000 now/\fs.length < 900/\gs.length<=6/\∀ (co:V) (du:Addr) (ds:List V) (H1:Hp),But p H H1->H du=none->H1 p=some (.ins C dx (putF ("due" : Str) (.ref du) (putF ("coming" : Str) co fs)))->OptB K H1 co (comP R gs now)->H1 du=some (.lst ds)->Al2 (PrH H1) ds (dueP R gs now)->Q .non H1
theorem yc:FnScope ["self","pair","moment"] ["self"] (zD (zP (top 65) 5)):=⟨rfl,rfl,rfl,by decide+kernel,rfl,by decide+kernel,by decide+kernel⟩
theorem ok_Plane_look_ahead (D:DfM K (C 0) "look_ahead" "Plane.look_ahead" (zP (top 65) 5) ["self"]) (T:Tx K mg C) (F_Plane_is_sooner:FnM P w K mg base 2 (C 0) "is_sooner" ["self","moment"] (YD K (C 0))) (F_Plane_meet_at:FnM P w K mg base 5 (C 0) "meet_at" ["self","pair","moment"] (JL K (C 0))) (F_Plane_close_at_a_corner:FnM P w K mg base 1 (C 0) "close_at_a_corner" ["self","pair"] (yM K (C 0))) (F_Plane_is_coming:FnM P w K mg base 1 (C 0) "is_coming" ["self","pair"] (jx K (C 0))):FnM P w K mg base 6 (C 0) "look_ahead" ["self"] (jc K (C 0)):=by
 refine D.ok0 yc (fun vs H Q E h=>?_) (fun f cdv A outer s H vs Q E hr h=>?_)
 ·obtain ⟨p,R,gs,dx,fs,wl,g,xs,j,kvs,nw,now,rfl,_⟩:=h
  rfl
 obtain ⟨p,R,gs,dx,fs,wl,g,xs,j,kvs,nw,now,rfl,pg,pj,hj,njw,fn,gn,dn,fl,l6,k⟩:=h
 refine ⟨_,(zE (jR T.cl_Plane T.n_Plane_coming (pv 0) y9)
   (zE (ps_thaw (yF PassesOwn.never rfl (JY (zT T.cl_Plane T.n_Plane_joints (pv 0))) (za (i:=1) yc.nd rfl (Or.inl rfl)) (zE (zN (i:=2) yc.nd rfl (Or.inl rfl) (ZS (YC (u100 hr)) (zT T.cl_Plane T.n_Plane_joints (pv 0)) (pv 1) (fun _ _=>rfl)))
   (zF (zh (ZW (zn (yb T.cl_Plane F_Plane_is_sooner (by decide) hr zG (pv 0) (zA (pv 2) zB)) (fun _=>rfl)) (je (jM (zn (yb T.cl_Plane F_Plane_meet_at (by decide) hr zG (pv 0) (zA (pv 1) (zA (pv 2) zB))) (fun _=>rfl)) (ym (zn (yb T.cl_Plane F_Plane_close_at_a_corner (by decide) hr zG (pv 0) (zA (pv 1) zB)) (fun _=>rfl)))).pt)).pt (zF (jR T.cl_Plane T.n_Plane_coming (pv 0) (pv 2))) zU)))))
   (zF (jR T.cl_Plane T.n_Plane_due (pv 0) (pe_thaw (@pe_lcT _ _ _ _ _ _ _ _ _ _ _ _ ["self"] [0] rfl (JY (zT T.cl_Plane T.n_Plane_joints (pv 0))) rfl (by decide) rfl (by decide) rfl (by decide) (ZQ (j:=0) rfl rfl rfl rfl (.inl rfl)) (fun y c h=>h) (YO rfl) (fun C z Hc fp=>pts_one (ZW (zn (yb T.cl_Plane F_Plane_is_coming (by decide) hr zG (pv 1) (zA (pv 0) zB)) (fun _=>rfl)) (je (zn (yb T.cl_Plane F_Plane_meet_at (by decide) hr zG (pv 1) (zA (pv 0) (zA (zT T.cl_Plane T.n_Plane_coming (pv 1)) zB))) (fun _=>rfl)))).pt) (fun C z Hc fp=>(pv 0)) (fun _=>rfl))))))),?_⟩
 have c1:("coming" : Str)="coming"\/("coming" : Str)="due"\/("coming" : Str)="now"\/("coming" : Str)="gone_through":=.inl rfl
 have npj:p≠j:=zw pg.ob hj (by intro z; cases z)
 have npg:p≠g:=zw pg.ob pg.hg (by intro z; cases z)
 have njg:j≠g:=zw hj pg.hg (by intro z; cases z)
 obtain ⟨wkv,hwl⟩:∃ kv,H wl=some (.dT kv):=by
  obtain ⟨_,_,_,_,e,_⟩:=pg.ws
  exact ⟨_,e⟩
 have npw:p≠wl:=zw pg.ob hwl (by intro z; cases z)
 have lk:kvs.length<=200:=by
  have z:=congrArg List.length pj.ks
  rw [List.length_map,List.length_map] at z
  have:=Z8 l6
  omega
 refine ⟨_,rfl,p,dx,fs,rfl,pg.ob,by omega,?_⟩
 obtain ⟨H1,q1,s1,e1⟩:=newB (H:=H) (p:=p) (.ins (C 0) dx (putF ("coming" : Str) V.non fs))
 dsimp only
 rw [q1]
 clear q1
 have hj1:=s1 _ _ (Ne.symm npj) hj
 refine ⟨_,rfl,p,_,_,_,rfl,e1,(ZC (by decide) fs).trans pj.fj,j,kvs,rfl,hj1,fun o=>?_⟩
 obtain ⟨H2,q2,s2,e2⟩:=newB (H:=H1) (p:=j) (.frz o (.dT kvs))
 rw [q2]
 clear q2
 have nt:NoT [p,j] H:=NoT.ins pg.ob (NoT.dct hj NoT.nil)
 have b2:Buts [p,j] H H2:=(Buts.one s1 (by simp)).trans (Buts.one s2 (by simp))
 have nwa:wl∉[p,j]:=by simp [Ne.symm npw,njw]
 have nga:g∉[p,j]:=by simp [Ne.symm npg,Ne.symm njg]
 have at3:∀ {H3:Hp} {cv:V},Buts [p] H2 H3->H3 p=some (.ins (C 0) dx (putF ("coming" : Str) cv fs))->PlG K H3 (C 0) p R gs dx (putF ("coming" : Str) cv fs) wl g xs/\PlJ K H3 R gs (putF ("coming" : Str) cv fs) j kvs/\FQ K H3 nw now/\H3 j=some (.frz o (.dT kvs)):=fun {H3 cv} s3 e3=>by
  have b3:Buts [p,j] H H3:=b2.trans (s3.mono (by simp))
  have j3:=s3 _ _ (by simp [Ne.symm npj]) e2
  exact ⟨pg.put c1 b3 nt nwa nga e3,pj.put c1 b3 nt (.inr ⟨o,j3⟩),b3.tup nt gn,j3⟩
 refine for_dict (fun i σ' H'=>∃ (u1 u2:Option V) (cv:V),σ'=[some (.ref p),u1,u2]/\Buts [p] H2 H'/\H' p=some (.ins (C 0) dx (putF ("coming" : Str) cv fs))/\OptB K H' cv (((prsP gs.length).take i).foldl (ya R gs now) none)) ⟨_,_,.non,rfl,Buts.refl,s2 _ _ npj e1,.inl ⟨rfl,rfl⟩⟩ (by rintro _ _ _ _ ⟨_,_,_,_,g',h',_⟩; exact (at3 g' h').2.2.2) ?_ ?_
 ·rintro i kv b σ' H3 hk hb ⟨u1,u2,cv,rfl,s3,e3,oc⟩
  obtain ⟨q,hq,ek⟩:=Y4 pj.ks hk
  rw [ek] at hb
  have hin:=yK.mp (List.mem_of_getElem? hq)
  obtain ⟨pg3,pj3,gn3,hj3⟩:=at3 s3 e3
  obtain ⟨v,ev,ov⟩:=pj3.get (yK.mpr hin)
  have pc3:PlC K H3 now (((prsP gs.length).take i).foldl (ya R gs now) none) (putF ("coming" : Str) cv fs) nw cv:=⟨(ZC (by decide) fs).trans fn,gn3,dn,look_eq fs,oc⟩
  generalize hc:((prsP gs.length).take i).foldl (ya R gs now) none=cc at oc pc3
  have stp:((prsP gs.length).take (i+1)).foldl (ya R gs now) none=ya R gs now cc q:=by rw [zY hq,List.foldl_append,hc]; rfl
  rw [stp]
  refine ⟨_,rfl,p,_,_,_,rfl,e3,pj3.fj,_,rfl,j,v,rfl,.inr ⟨kvs,keyP q,b,pj3.hj,rfl,hb,ev.symm⟩,?_⟩
  refine ⟨_,rfl,p,_,_,rfl,e3,pg3.nm.is_sooner,_,rfl,p,dx,v,now,cc,jntP R gs q,_,nw,cv,rfl,e3,pc3,ov,fun H4 s4=>⟨_,rfl,?_⟩⟩
  have stay:∀ {H5:Hp},Same H3 H5->ya R gs now cc q=cc->∃ (u1 u2:Option V) (cv:V),[some (V.ref p),some (.ref b),some v]=[some (.ref p),u1,u2]/\Buts [p] H2 H5/\H5 p=some (.ins (C 0) dx (putF ("coming" : Str) cv fs))/\OptB K H5 cv (ya R gs now cc q):=fun {H5} s5 e=>⟨_,_,cv,rfl,s3.trans (Buts.of s5),s5 _ _ e3,by rw [e]; exact oc.same s5⟩
  cases hs:Zd now cc (jntP R gs q) with
  |false=>
   refine iteF ?_
   refine iteF ?_
   exact stay s4 (by unfold ya; rw [hs]; rfl)
  |true=>
   refine iteT ?_
   rcases ov with ⟨en,_⟩|⟨t,pt,et,rfl,gt,dt⟩
   ·rw [en] at hs
    cases hs
   refine ⟨_,rfl,p,_,_,rfl,s4 _ _ e3,pg3.nm.meet_at,_,rfl,_,rfl,p,b,pt,R,gs,dx,_,wl,g,xs,q,t,rfl,pg3.same s4,s4 _ _ hb,hin,Kw.Same.tup s4 gt,dt,fun H5 s5=>⟨_,rfl,?_⟩⟩
   have s35:=s4.trans s5
   have gd:((jntP R gs q).getD 0)=t:=by rw [et]; rfl
   cases hm:metP R gs t q with
   |true=>
    refine iteT ?_
    refine iteT ?_
    refine ⟨_,rfl,_,rfl,p,dx,_,rfl,(s4.trans s5 _ _ e3),by have:=Jm (f:=("coming" : Str)) (v:=cv) fs; omega,?_⟩
    obtain ⟨H7,q7,s7,e7⟩:=newB (H:=H5) (p:=p) (.ins (C 0) dx (putF ("coming" : Str) (V.ref pt) (putF ("coming" : Str) cv fs)))
    dsimp only
    rw [q7]
    clear q7
    rw [put_put] at e7
    refine ⟨_,_,.ref pt,rfl,s3.trans ((Buts.of (s4.trans s5)).trans (Buts.one s7 (List.mem_singleton.mpr rfl))),e7,?_⟩
    rw [show ya R gs now cc q=jntP R gs q by unfold ya; rw [hs,gd,hm]; rfl,et]
    exact .inr ⟨t,pt,rfl,rfl,(Buts.one s7 (List.mem_singleton.mpr rfl):Buts [p] _ _).tup (NoT.ins (s4.trans s5 _ _ e3) NoT.nil) (Kw.Same.tup (s4.trans s5) gt),dt⟩
   |false=>
    refine iteF ?_
    refine ⟨_,rfl,p,_,_,rfl,s35 _ _ e3,pg3.nm.close_at_a_corner,_,rfl,p,b,R,gs,dx,_,j,kvs,q,rfl,s35 _ _ e3,pj3.same s35,s35 _ _ hb,hin,fun H6 s6=>⟨_,rfl,?_⟩⟩
    cases hcr:corP R gs q with
    |true=>
     refine iteT ?_
     refine ⟨_,rfl,_,rfl,p,dx,_,rfl,(s35.trans s6 _ _ e3),by have:=Jm (f:=("coming" : Str)) (v:=cv) fs; omega,?_⟩
     obtain ⟨H7,q7,s7,e7⟩:=newB (H:=H6) (p:=p) (.ins (C 0) dx (putF ("coming" : Str) (V.ref pt) (putF ("coming" : Str) cv fs)))
     dsimp only
     rw [q7]
     clear q7
     rw [put_put] at e7
     refine ⟨_,_,.ref pt,rfl,s3.trans ((Buts.of (s35.trans s6)).trans (Buts.one s7 (List.mem_singleton.mpr rfl))),e7,?_⟩
     rw [show ya R gs now cc q=jntP R gs q by unfold ya; rw [hs,gd,hm,hcr]; rfl,et]
     exact .inr ⟨t,pt,rfl,rfl,(Buts.one s7 (List.mem_singleton.mpr rfl):Buts [p] _ _).tup (NoT.ins (s35.trans s6 _ _ e3) NoT.nil) (Kw.Same.tup (s35.trans s6) gt),dt⟩
    |false=>
     refine iteF ?_
     exact stay (s35.trans s6) (by unfold ya; rw [hs,gd,hm,hcr]; rfl)
 ·rintro σ' H3 ⟨u1,u2,cv,rfl,s3,e3,oc⟩
  obtain ⟨pg3,pj3,gn3,hj3⟩:=at3 s3 e3
  have lkp:kvs.length=(prsP gs.length).length:=by
   have z:=congrArg List.length pj.ks
   rwa [List.length_map,List.length_map] at z
  rw [lkp,List.take_length] at oc
  change OptB K H3 cv (comP R gs now) at oc
  refine ⟨j,o,kvs,hj1,hj3,?_⟩
  obtain ⟨H4,q4,s4,e4⟩:=newB (H:=H3) (p:=j) (.dT kvs)
  rw [q4]
  clear q4
  have p4:=s4 _ _ npj e3
  have b4:Buts [p,j] H H4:=(b2.trans (s3.mono (by simp))).trans (Buts.one s4 (by simp))
  refine ⟨_,rfl,p,_,_,_,rfl,p4,pj3.fj,j,kvs,rfl,e4,fun o'=>?_⟩
  obtain ⟨H5,q5,s5,e5⟩:=newB (H:=H4) (p:=j) (.frz o' (.dT kvs))
  rw [q5]
  clear q5
  have p5:=s5 _ _ npj p4
  have b5:Buts [p,j] H H5:=b4.trans (Buts.one s5 (by simp))
  have pg5:=pg.put c1 b5 nt nwa nga p5
  have pj5:PlJ K H5 R gs (putF ("coming" : Str) cv fs) j kvs:=pj.put c1 b5 nt (.inr ⟨o',e5⟩)
  have oc5:OptB K H5 cv (comP R gs now):=oc.buts ((Buts.one s4 (by simp)).trans (Buts.one s5 (by simp)):Buts [j] H3 H5) (NoT.frz hj3 NoT.nil)
  have fc:=look_eq (f:=("coming" : Str)) (v:=cv) fs
  refine lc_dictF (ps:=prsP gs.length) (fun q=>cmgP R gs (comP R gs now) q && metP R gs ((comP R gs now).getD 0) q) pj.ks e5 (Nat.le_trans lk (by decide)) ?_ ?_ ?_
  ·intro q b H6 hq s6 hb Q' hQ
   have hin:=yK.mp hq
   refine ⟨_,rfl,p,_,_,rfl,s6 _ _ p5,pg5.nm.is_coming,_,rfl,p,b,R,gs,dx,_,j,kvs,q,_,cv,rfl,s6 _ _ p5,pj5.same s6,hb,hin,fc,oc5.same s6,_,rfl,?_⟩
   cases hc:cmgP R gs (comP R gs now) q with
   |false=>
    refine iteF ?_
    have z:=hQ H6 (Same.refl _)
    rw [hc,Bool.false_and] at z
    exact z
   |true=>
    refine iteT ?_
    rcases oc5.same s6 with ⟨en,_⟩|⟨t,pt,et,ecv,gt,dt⟩
    ·unfold cmgP at hc
     rw [en] at hc
     cases hc
    refine ⟨_,rfl,p,_,_,rfl,s6 _ _ p5,pg5.nm.meet_at,_,rfl,_,rfl,p,_,_,_,rfl,s6 _ _ p5,fc,p,b,pt,R,gs,dx,_,wl,g,xs,q,t,by rw [ecv]; rfl,pg5.same s6,hb,hin,gt,dt,fun H7 s7=>⟨_,rfl,?_⟩⟩
    have z:=hQ H7 s7
    rw [hc,Bool.true_and,et] at z
    exact z
  ·intro b H6 Q' hQ
   exact ⟨_,rfl,hQ⟩
  ·intro H6 ds s6 al q hq
   obtain ⟨H7,q7,s7,e7⟩:=newO hq (.lst ds)
   rw [q7]
   clear q7
   have s67:=s6.trans s7
   have j7:=s67 _ _ e5
   refine ⟨j,o',kvs,e4,j7,?_⟩
   obtain ⟨H8,q8,s8,e8⟩:=newB (H:=H7) (p:=j) (.dT kvs)
   rw [q8]
   clear q8
   have p7:=s67 _ _ p5
   have p8:=s8 _ _ npj p7
   refine ⟨_,rfl,p,dx,_,rfl,p8,by have:=Jm (f:=("coming" : Str)) (v:=cv) fs; omega,?_⟩
   obtain ⟨H9,q9,s9,e9⟩:=newB (H:=H8) (p:=p) (.ins (C 0) dx (putF ("due" : Str) (V.ref q) (putF ("coming" : Str) cv fs)))
   dsimp only
   rw [q9]
   clear q9
   have nq:H q=none:=by
    cases z:H q with
    |none=>rfl
    |some u=>
     by_cases e:q=p
     ·subst e
      rw [(s6 _ _ p5)] at hq
      cases hq
     ·by_cases e':q=j
      ·subst e'
       rw [s6 _ _ e5] at hq
       cases hq
      ·have y:=s6 _ _ (b5 q u (by simp [e,e']) z)
       rw [hq] at y
       cases y
   have nqp:q≠p:=fun z=>by subst z; rw [pg.ob] at nq; cases nq
   have nqj:q≠j:=fun z=>by subst z; rw [hj] at nq; cases nq
   have b59:Buts [p,j] H5 H9:=(Buts.of s67).trans ((Buts.one s8 (by simp)).trans (Buts.one s9 (by simp)))
   have nt5:NoT [p,j] H5:=NoT.ins p5 (NoT.frz e5 NoT.nil)
   have nt7:NoT [p,j] H7:=NoT.ins p7 (NoT.frz j7 NoT.nil)
   have b79:Buts [p,j] H7 H9:=(Buts.one s8 (by simp)).trans (Buts.one s9 (by simp))
   refine k cv q ds H9 (fun a u na ha=>?_) nq e9 (oc5.buts b59 nt5) (b79 _ _ (by simp [nqp,nqj]) e7) (y3 (zy al s7) b79 nt7)
   by_cases e':a=j
   ·subst e'
    rw [hj] at ha
    cases ha
    exact s9 _ _ na e8
   ·exact b59 _ _ (by simp [na,e']) (b5 a u (by simp [na,e']) ha)
def jy (K:PySem.W.Frag) (C:Addr):Sp:=fun vs H Q _=>∃ (p u dx g:Addr) (fs:List (Str × V)) (xs:List V) (gs:List Bq) (t:Rat),vs=[.ref p,.ref u]/\H p=some (.ins C dx fs)/\fs.lookup ("goings" : Str)=some (.ref g)/\H g=some (.lst xs)/\Al2 (BqH K 1990 H) xs gs/\gs.length<=6/\FQ K H u t/\FB 2000 t/\∀ (r:Addr) (zs:List V) (H1:Hp),Same H H1->H r=none->H1 r=some (.lst zs)->Al2 (BqH K 5990 H1) zs (gs.map (atB t))->Q (.ref r) H1
theorem sc_Plane_bodies_at:FnScope ["self","moment"] ["self","moment"] (zD (zP (top 65) 4)):=⟨rfl,rfl,rfl,by decide+kernel,rfl,by decide+kernel,by decide+kernel⟩
theorem ok_Plane_bodies_at (D:DfM K (C 0) "bodies_at" "Plane.bodies_at" (zP (top 65) 4) ["self","moment"]) (T:Tx K mg C) (F_box_at:Fn P w K mg base 4 "box_at" ["box","moment"] (Y3 K)):FnM P w K mg base 5 (C 0) "bodies_at" ["self","moment"] (jy K (C 0)):=by
 refine D.ok0 sc_Plane_bodies_at (fun vs H Q E h=>?_) (fun f cdv A outer s H vs Q E hr h=>?_)
 ·obtain ⟨p,u,dx,g,fs,xs,gs,t,rfl,_⟩:=h
  rfl
 obtain ⟨p,u,dx,g,fs,xs,gs,t,rfl,hp,fg,hg,al,l6,gt,dt,k⟩:=h
 refine ⟨_,(zF (zM (@Jy _ _ _ _ _ _ _ _ _ _ ["moment"] [1] rfl (yU (zT T.cl_Plane T.n_Plane_goings (pv 0))) rfl (by decide) rfl (by decide) rfl (by decide) (ZQ (j:=1) rfl rfl rfl rfl (.inl rfl)) (fun y c h=>h) (YO rfl) (fun C z Hc fp=>(zL F_box_at (by decide) hr (by rfl) zG (zA (pv 0) (zA (pv 1) zB)))) (fun _=>rfl)))),?_⟩
 have hz:=Al2.len al
 refine ⟨_,rfl,p,_,_,_,rfl,hp,fg,g,rfl,⟨_,SqL.of hg⟩,Yy (K:=K) (xs:=xs) (fun i zs H'=>i<=xs.length/\Same H H'/\Al2 (BqH K 5990 H') zs ((gs.take i).map (atB t))) ⟨Nat.zero_le _,Same.refl _,trivial⟩ (by rw [hz]; exact Nat.le_trans l6 (by decide)) (fun i zs H1 z=>by obtain ⟨l,_,e⟩:=z; have:=Al2.len e; simp at this; omega) (fun i zs H1 z=>by obtain ⟨_,g,_⟩:=z; exact SqL.of (g _ _ hg)) ?_ ?_⟩
 ·rintro i x zs H1 Q1 hx ⟨hl,s1,hy⟩ kq
  have hi:i < xs.length:=(List.getElem?_eq_some_iff.mp hx).1
  obtain ⟨b,hb,hxb⟩:=Al2.get (zk al s1) hx
  refine ⟨_,rfl,_,rfl,x,b,u,t,rfl,hxb,Kw.Same.tup s1 gt,dt,fun r2 H2 s2 one=>?_⟩
  refine kq _ _ ⟨hi,s1.trans s2,?_⟩
  rw [zY hb,List.map_append]
  exact Al2.snoc (zk hy s2) one
 ·rintro zs H1 ⟨_,s1,hy⟩ pl hpl
  rw [hz,List.take_length] at hy
  obtain ⟨H2,q2,s2,e2⟩:=newO hpl (.lst zs)
  rw [q2]
  clear q2
  exact k pl zs H2 (s1.trans s2) (jA s1 hpl) e2 (zk hy s2)
def wdP (d:Nat):V:=strV (if d=0 then "across" else "along")
def MtP (K:PySem.W.Frag) (H:Hp) (v:V) (m:Rat × Pr):Prop:=∃ r a:Addr,v=.ref r/\SqT K H r [.ref a,wdP m.2.1,.int m.2.2.1,.int m.2.2.2]/\FQ K H a m.1/\FB 2000 m.1
theorem MtP.same {K:PySem.W.Frag} {H H':Hp} {v:V} {m:Rat × Pr} (h:MtP K H v m) (s:Same H H'):MtP K H' v m:=by
 obtain ⟨r,a,e,h1,h2,h3⟩:=h
 exact ⟨r,a,e,Kw.Same.tup s h1,Kw.Same.tup s h2,h3⟩
theorem jd {K:PySem.W.Frag} {H H':Hp} {vs:List V} {ms:List (Rat × Pr)} (h:Al2 (MtP K H) vs ms) (s:Same H H'):Al2 (MtP K H') vs ms:=Al2.imp (fun _ _ z=>z.same s) h
theorem MtP.buts {K:PySem.W.Frag} {H H':Hp} {v:V} {m:Rat × Pr} {as:List Addr} (h:MtP K H v m) (s:Buts as H H') (n:NoT as H):MtP K H' v m:=by
 obtain ⟨r,a,e,h1,h2,h3⟩:=h
 exact ⟨r,a,e,s.tup n h1,s.tup n h2,h3⟩
theorem mtp_buts {K:PySem.W.Frag} {H H':Hp} {vs:List V} {ms:List (Rat × Pr)} {as:List Addr} (h:Al2 (MtP K H) vs ms) (s:Buts as H H') (n:NoT as H):Al2 (MtP K H') vs ms:=Al2.imp (fun _ _ z=>z.buts s n) h
def YV (K:PySem.W.Frag) (C:Addr):Sp:=fun vs H Q _=>∃ (p dx:Addr) (fs:List (Str × V)) (du:Addr) (ds:List V) (ps:List Pr) (t:Rat) (pc:Addr),vs=[.ref p]/\H p=some (.ins C dx fs)/\fs.lookup ("due" : Str)=some (.ref du)/\H du=some (.lst ds)/\Al2 (PrH H) ds ps/\ps.length<=200/\(∀ q∈ps,q.1<=1)/\fs.lookup ("coming" : Str)=some (.ref pc)/\FQ K H pc t/\FB 2000 t/\∀ (r:Addr) (zs:List V) (H1:Hp),Same H H1->H r=none->H1 r=some (.lst zs)->Al2 (MtP K H1) zs (ps.map fun q=>(t,q))->Q (.ref r) H1
theorem sc_Plane_meetings:FnScope ["self"] ["self"] (zD (zP (top 65) 10)):=⟨rfl,rfl,rfl,by decide+kernel,rfl,by decide+kernel,by decide+kernel⟩
theorem ok_Plane_meetings (D:DfM K (C 0) "meetings" "Plane.meetings" (zP (top 65) 10) ["self"]) (T:Tx K mg C):FnM P w K mg base 1 (C 0) "meetings" ["self"] (YV K (C 0)):=by
 refine D.ok0 sc_Plane_meetings (fun vs H Q E h=>?_) (fun f cdv A outer s H vs Q E hr h=>?_)
 ·obtain ⟨p,dx,fs,du,ds,ps,t,pc,rfl,_⟩:=h
  rfl
 obtain ⟨p,dx,fs,du,ds,ps,t,pc,rfl,hp,fd,hd,al,l2,w1,fc,gt,dt,k⟩:=h
 refine ⟨_,(zF (zM (@Jy _ _ _ _ _ _ _ _ _ _ ["self"] [0] rfl (yU (zT T.cl_Plane T.n_Plane_due (pv 0))) rfl (by decide) rfl (by decide) rfl (by decide) (ZQ (j:=0) rfl rfl rfl rfl (.inl rfl)) (fun y c h=>h) (YO rfl) (fun C z Hc fp=>(zR (zA (zT T.cl_Plane T.n_Plane_coming (pv 1)) (zA (zH (ixT (K:=K) rfl) (pe_globS3 (K:=K) rfl (by rfl) T.k_WORDS) (zH (ixT (K:=K) rfl) (pv 0) zC (fun _ _=>rfl)) (fun _ _=>rfl)) (zA (zH (ixT (K:=K) rfl) (pv 0) zC (fun _ _=>rfl)) (zA (zH (ixT (K:=K) rfl) (pv 0) zC (fun _ _=>rfl)) zB)))))) (fun _=>rfl)))),?_⟩
 have hz:=Al2.len al
 refine ⟨_,rfl,p,_,_,_,rfl,hp,fd,du,rfl,⟨_,SqL.of hd⟩,Yy (K:=K) (xs:=ds) (fun i zs H'=>i<=ds.length/\Same H H'/\Al2 (MtP K H') zs ((ps.take i).map fun q=>(t,q))) ⟨Nat.zero_le _,Same.refl _,trivial⟩ (by rw [hz]; exact Nat.le_trans l2 (by decide)) (fun i zs H1 z=>by obtain ⟨l,_,e⟩:=z; have:=Al2.len e; simp at this; omega) (fun i zs H1 z=>by obtain ⟨_,g,_⟩:=z; exact SqL.of (g _ _ hd)) ?_ ?_⟩
 ·rintro i x zs H1 Q1 hx ⟨hl,s1,hy⟩ kq
  have hi:i < ds.length:=(List.getElem?_eq_some_iff.mp hx).1
  obtain ⟨q,hq,b,rfl,hb⟩:=Al2.get (zy al s1) hx
  have hqt:SqT K H1 b [.int (q.1:Int),.int q.2.1,.int q.2.2]:=SqT.of hb
  have hd1:=w1 q (List.mem_of_getElem? hq)
  refine ⟨_,rfl,p,_,_,_,rfl,s1 _ _ hp,fc,fun N hN=>?_⟩
  have hN':SqT K H1 N [strV "across",strV "along"]:=hN H1
  have at':atI [strV "across",strV "along"] (q.1:Int)=some (wdP q.1):=by
   rcases d01 hd1 with e|e
   ·rw [e]
    rfl
   ·rw [e]
    rfl
  refine ⟨_,rfl,b,_,_,_,rfl,rfl,hqt,rfl,N,_,_,_,rfl,rfl,hN',at',_,rfl,b,_,_,_,rfl,rfl,hqt,rfl,_,rfl,b,_,_,_,rfl,rfl,hqt,rfl,by show 4<=sizeLine; decide,?_⟩
  intro p2 n2
  obtain ⟨H2,q2,s2,e2⟩:=newO n2 (.tup [.ref pc,wdP q.1,.int q.2.1,.int q.2.2])
  rw [q2]
  clear q2
  refine kq _ _ ⟨hi,s1.trans s2,?_⟩
  rw [zY hq,List.map_append]
  exact Al2.snoc (jd hy s2) ⟨p2,pc,rfl,SqT.of e2,Kw.Same.tup (s1.trans s2) gt,dt⟩
 ·rintro zs H1 ⟨_,s1,hy⟩ pl hpl
  rw [hz,List.take_length] at hy
  obtain ⟨H2,q2,s2,e2⟩:=newO hpl (.lst zs)
  rw [q2]
  clear q2
  exact k pl zs H2 (s1.trans s2) (jA s1 hpl) e2 (jd hy s2)
def yD (l:List Int):List V:=l.map V.int
def jt (K:PySem.W.Frag) (C:Addr):Sp:=fun vs H Q _=>∃ (p dx:Addr) (fs:List (Str × V)) (du:Addr) (ds:List V) (ps:List Pr),vs=[.ref p]/\H p=some (.ins C dx fs)/\fs.lookup ("due" : Str)=some (.ref du)/\H du=some (.lst ds)/\Al2 (PrH H) ds ps/\ps.length<=200/\∀ (r:Addr) (H1:Hp),Same H H1->H1 r=some (.lst (yD (numP ps)))->Q (.ref r) H1
theorem jV:FnScope ["self","numbers"] ["self"] (zD (zP (top 65) 11)):=⟨rfl,rfl,rfl,by decide+kernel,rfl,by decide+kernel,by decide+kernel⟩
theorem ok_Plane_boxes_met (D:DfM K (C 0) "boxes_met" "Plane.boxes_met" (zP (top 65) 11) ["self"]) (T:Tx K mg C):FnM P w K mg base 1 (C 0) "boxes_met" ["self"] (jt K (C 0)):=by
 refine D.ok0 jV (fun vs H Q E h=>?_) (fun f cdv A outer s H vs Q E hr h=>?_)
 ·obtain ⟨p,dx,fs,du,ds,ps,rfl,_⟩:=h
  rfl
 obtain ⟨p,dx,fs,du,ds,ps,rfl,hp,fd,hd,al,l2,k⟩:=h
 refine ⟨_,(zE (zN (i:=1) jV.nd rfl (Or.inl rfl) (zO op_cat (@Jy _ _ _ _ _ _ _ _ _ _ [] [] rfl (yU (zT T.cl_Plane T.n_Plane_due (pv 0))) rfl (by decide) rfl (by decide) rfl (by decide) Zz (fun _ _ h=>nomatch h) (Yu rfl) (fun C z Hc fp=>(zH (ixT (K:=K) rfl) (pv 0) zC (fun _ _=>rfl))) (fun _=>rfl)) (@Jy _ _ _ _ _ _ _ _ _ _ [] [] rfl (yU (zT T.cl_Plane T.n_Plane_due (pv 0))) rfl (by decide) rfl (by decide) rfl (by decide) Zz (fun _ _ h=>nomatch h) (Yu rfl) (fun C z Hc fp=>(zH (ixT (K:=K) rfl) (pv 0) zC (fun _ _=>rfl))) (fun _=>rfl))))
   (zF (zM (@pe_lcT _ _ _ _ _ _ _ _ _ _ _ _ [] [] rfl (yU (pv 1)) rfl (by decide) rfl (by decide) rfl (by decide) Zz (fun _ _ h=>nomatch h) (Yu rfl) (fun C z Hc fp=>pts_one (zQ YU (pv 0) zC (zS _))) (fun C z Hc fp=>(pv 0)) (fun _=>rfl))))),?_⟩
 have hz:=Al2.len al
 refine ⟨_,rfl,p,_,_,_,rfl,hp,fd,du,rfl,⟨_,SqL.of hd⟩,Yy (K:=K) (xs:=ds) (fun i zs H'=>i<=ds.length/\Same H H'/\zs=yD ((ps.take i).map (·.2.1))) ⟨Nat.zero_le _,Same.refl _,rfl⟩ (by rw [hz]; exact Nat.le_trans l2 (by decide)) (fun i zs H1 z=>by obtain ⟨l,_,e⟩:=z; rw [e]; simp [yD]; omega) (fun i zs H1 z=>by obtain ⟨_,g,_⟩:=z; exact SqL.of (g _ _ hd)) ?_ ?_⟩
 ·rintro i x zs H1 Q1 hx ⟨hl,s1,rfl⟩ kq
  have hi:i < ds.length:=(List.getElem?_eq_some_iff.mp hx).1
  obtain ⟨q,hq,b,rfl,hb⟩:=Al2.get (zy al s1) hx
  have hqt:SqT K H1 b [.int (q.1:Int),.int q.2.1,.int q.2.2]:=SqT.of hb
  refine ⟨_,rfl,b,_,_,_,rfl,rfl,hqt,rfl,?_⟩
  refine kq _ _ ⟨hi,s1,?_⟩
  rw [zY hq]
  simp [yD]
 rintro zs H1 ⟨_,s1,rfl⟩ r1 hr1
 rw [hz,List.take_length]
 obtain ⟨H2,q2,s2,e2⟩:=newO hr1 (.lst (yD (ps.map (·.2.1))))
 rw [q2]
 clear q2
 have s12:=s1.trans s2
 refine ⟨_,rfl,p,_,_,_,rfl,s12 _ _ hp,fd,du,rfl,⟨_,SqL.of (s12 _ _ hd)⟩,Yy (K:=K) (xs:=ds) (fun i zs H'=>i<=ds.length/\Same H2 H'/\zs=yD ((ps.take i).map (·.2.2))) ⟨Nat.zero_le _,Same.refl _,rfl⟩ (by rw [hz]; exact Nat.le_trans l2 (by decide)) (fun i zs H1 z=>by obtain ⟨l,_,e⟩:=z; rw [e]; simp [yD]; omega) (fun i zs H1 z=>by obtain ⟨_,g,_⟩:=z; exact SqL.of (g _ _ (s12 _ _ hd))) ?_ ?_⟩
 ·rintro i x zs H3 Q1 hx ⟨hl,s3,rfl⟩ kq
  have hi:i < ds.length:=(List.getElem?_eq_some_iff.mp hx).1
  obtain ⟨q,hq,b,rfl,hb⟩:=Al2.get (zy al (s12.trans s3)) hx
  have hqt:SqT K H3 b [.int (q.1:Int),.int q.2.1,.int q.2.2]:=SqT.of hb
  refine ⟨_,rfl,b,_,_,_,rfl,rfl,hqt,rfl,?_⟩
  refine kq _ _ ⟨hi,s3,?_⟩
  rw [zY hq]
  simp [yD]
 rintro zs H3 ⟨_,s3,rfl⟩ r3 hr3
 rw [hz,List.take_length]
 obtain ⟨H4,q4,s4,e4⟩:=newO hr3 (.lst (yD (ps.map (·.2.2))))
 rw [q4]
 clear q4
 have l4:(yD (ps.map (·.2.1))).length+(yD (ps.map (·.2.2))).length<=400:=by simp [yD]; omega
 refine ⟨r1,r3,_,_,rfl,rfl,(s3.trans s4) _ _ e2,e4,Nat.le_trans l4 (by decide),?_⟩
 intro p5 n5
 obtain ⟨H5,q5,s5,e5⟩:=newO n5 (.lst (yD (ps.map (·.2.1))++yD (ps.map (·.2.2))))
 rw [q5]
 clear q5
 have e5':H5 p5=some (.lst (yD (ps.map (·.2.1)++ps.map (·.2.2)))):=by rw [e5]; simp [yD]
 have s15:=s12.trans (s3.trans (s4.trans s5))
 refine ⟨_,rfl,p5,rfl,⟨_,SqL.of e5'⟩,lc_filter (K:=K) (fun v=>match v with|.int i=>decide (0<=i)|_=>false) (SqL.of e5') (Nat.le_trans (show (yD (ps.map (·.2.1)++ps.map (·.2.2))).length<=400 by simp [yD]; omega) (by decide)) ?_ ?_ ?_⟩
 ·intro x hx Q1 q1
  obtain ⟨i,_,rfl⟩:=List.mem_map.mp hx
  exact ⟨_,rfl,_,_,rfl,rfl,_,rfl,q1⟩
 ·intro x hx Q1 q1
  exact ⟨_,rfl,q1⟩
 ·intro l hln
  have ef:((yD (ps.map (·.2.1)++ps.map (·.2.2))).filter fun v=>match v with|.int i=>decide (0<=i)|_=>false)=yD (numP ps):=by
   unfold yD numP
   rw [List.filter_map]
   rfl
  rw [ef]
  obtain ⟨H6,q6,s6,e6⟩:=newO hln (.lst (yD (numP ps)))
  rw [q6]
  clear q6
  exact k l H6 (s15.trans s6) e6
def jF (K:PySem.W.Frag) (C:Addr):Sp:=fun vs H Q _=>∃ (p dx:Addr) (fs:List (Str × V)) (du:Addr) (ds:List V) (ps:List Pr),vs=[.ref p]/\H p=some (.ins C dx fs)/\fs.lookup ("due" : Str)=some (.ref du)/\H du=some (.lst ds)/\Al2 (PrH H) ds ps/\ps.length<=200/\fs.lookup ("boxes_met" : Str)=none/\∀ (H1:Hp),Same H H1->Q (.bl (twoP ps)) H1
theorem yZ:FnScope ["self","numbers"] ["self"] (zD (zP (top 65) 13)):=⟨rfl,rfl,rfl,by decide+kernel,rfl,by decide+kernel,by decide+kernel⟩
theorem ok_Plane_has_two_meetings (D:DfM K (C 0) "has_two_meetings" "Plane.has_two_meetings" (zP (top 65) 13) ["self"]) (T:Tx K mg C) (F_Plane_boxes_met:FnM P w K mg base 1 (C 0) "boxes_met" ["self"] (jt K (C 0))):FnM P w K mg base 2 (C 0) "has_two_meetings" ["self"] (jF K (C 0)):=by
 refine D.ok0 yZ (fun vs H Q E h=>?_) (fun f cdv A outer s H vs Q E hr h=>?_)
 ·obtain ⟨p,dx,fs,du,ds,ps,rfl,_⟩:=h
  rfl
 obtain ⟨p,dx,fs,du,ds,ps,rfl,hp,fd,hd,al,l2,nm,k⟩:=h
 refine ⟨_,(zE (zN (i:=1) yZ.nd rfl (Or.inl rfl) (Zn T.cl_Plane F_Plane_boxes_met (by decide) hr zG (pv 0)))
   (zF (zM (yg Yh (zV call_lenS (by rfl) T.b_len PyProof.Rows.Boot.«len» (zA (yW (call_setI rfl) (by rfl) T.b_set PyProof.Rows.Boot.«set» (zA (pv 1) zB)) zB)) (zV yG (by rfl) T.b_len PyProof.Rows.Boot.«len» (zA (pv 1) zB)) (zS _))))),?_⟩
 refine ⟨_,rfl,p,_,_,rfl,hp,nm,p,dx,fs,du,ds,ps,rfl,hp,fd,hd,al,l2,fun r H1 s1 e1=>?_⟩
 have l64:(numP ps).length < 4000:=by
  have z:=List.length_filter_le (fun i=>decide ((0:Int)<=i)) (ps.map (·.2.1)++ps.map (·.2.2))
  unfold numP
  simp only [List.length_append,List.length_map] at z
  omega
 refine ⟨_,rfl,r,numP ps,rfl,SqL.of e1,l64,fun l hl=>?_⟩
 obtain ⟨H2,q2,s2,e2⟩:=newO hl (.set (fun k=>(dd (numP ps)).any (· == k)) (dd (numP ps)).length)
 rw [q2]
 clear q2
 refine ⟨l,_,_,rfl,e2,_,rfl,_,_,rfl,.inl ⟨_,SqL.of (s2 _ _ e1),rfl⟩,_,_,rfl,rfl,?_⟩
 have z:=k H2 (s1.trans s2)
 have e:twoP ps=decide (((dd (numP ps)).length:Int) < ((yD (numP ps)).length:Int)):=by
  unfold twoP
  refine decide_eq_decide.mpr ?_
  rw [<- dd_two]
  simp [yD]
 rw [e] at z
 exact z
def ZA (K:PySem.W.Frag) (C:Addr):Sp:=fun vs H Q _=>∃ (p l:Addr) (R:Rat × Rat) (gs:List Bq) (dx:Addr) (fs:List (Str × V)) (wl g:Addr) (xs:List V) (j:Addr) (kvs:List (List Key × V)) (du:Addr) (ds:List V) (ps:List Pr) (ys:List V) (bs:List Bq),vs=[.ref p,.ref l]/\PlG K H C p R gs dx fs wl g xs/\PlJ K H R gs fs j kvs/\H j=some (.dT kvs)/\wl≠j/\fs.lookup ("due" : Str)=some (.ref du)/\H du=some (.lst ds)/\Al2 (PrH H) ds ps/\ps.length<=200/\gs.length<=6/\H l=some (.lst ys)/\Al2 (BqH K 5990 H) ys bs/\bs.length=gs.length/\∀ (H1:Hp),Same H H1->Q (.bl (hemP R bs ps)) H1
theorem yO:FnScope ["self","boxes","near","pair"] ["self","boxes"] (zD (zP (top 65) 14)):=⟨rfl,rfl,rfl,by decide+kernel,rfl,by decide+kernel,by decide+kernel⟩
theorem ok_Plane_is_hemmed_in (D:DfM K (C 0) "is_hemmed_in" "Plane.is_hemmed_in" (zP (top 65) 14) ["self","boxes"]) (T:Tx K mg C) (F_are_beside:Fn P w K mg base 5 "are_beside" ["one","other","way"] (YF K)) (F_Plane_one_of:FnM P w K mg base 1 (C 0) "one_of" ["self","pair","boxes"] (jY K (C 0))) (F_Plane_other_of:FnM P w K mg base 1 (C 0) "other_of" ["self","pair","boxes"] (yy K (C 0))):FnM P w K mg base 6 (C 0) "is_hemmed_in" ["self","boxes"] (ZA K (C 0)):=by
 refine D.ok0 yO (fun vs H Q E h=>?_) (fun f cdv A outer s H vs Q E hr h=>?_)
 ·obtain ⟨p,l,R,gs,dx,fs,wl,g,xs,j,kvs,du,ds,ps,ys,bs,rfl,_⟩:=h
  rfl
 obtain ⟨p,l,R,gs,dx,fs,wl,g,xs,j,kvs,du,ds,ps,ys,bs,rfl,pg,pj,hj,njw,fd,hd,al,l2,l6,hl,alb,lb,k⟩:=h
 refine ⟨_,(zE (ps_thaw (yF PassesOwn.never rfl (JY (zT T.cl_Plane T.n_Plane_joints (pv 0))) (za (i:=2) yO.nd rfl (Or.inl rfl)) (zF (zh (zn (zL F_are_beside (by decide) hr (by rfl) zG (zA (yb T.cl_Plane F_Plane_one_of (by decide) hr zG (pv 0) (zA (pv 2) (zA (pv 1) zB))) (zA (yb T.cl_Plane F_Plane_other_of (by decide) hr zG (pv 0) (zA (pv 2) (zA (pv 1) zB))) (zA (zH ix_tup (pv 2) zC (fun _ _=>rfl)) zB)))) (fun _=>rfl)) (zF (yF PassesOwn.never rfl (yU (zT T.cl_Plane T.n_Plane_due (pv 0))) (za (i:=3) yO.nd rfl (Or.inl rfl)) (zF (zh (ZW (zQ ZB (zH ix_tup (pv 3) zC (fun _ _=>rfl)) (zH ix_tup (pv 2) zC (fun _ _=>rfl)) (zS _)) (je (jM (zQ ZB (zH ix_tup (pv 3) zC (fun _ _=>rfl)) (zH ix_tup (pv 2) zC (fun _ _=>rfl)) (zS _)) (ym (zQ ZB (zH ix_tup (pv 3) zC (fun _ _=>rfl)) (zH ix_tup (pv 2) zC (fun _ _=>rfl)) (zS _)))).pt)).pt (zF (zM jN)) zU)))) zU))))
   (zF (zM jN))),?_⟩
 refine ⟨_,rfl,p,_,_,_,rfl,pg.ob,pj.fj,j,kvs,rfl,hj,fun o=>?_⟩
 obtain ⟨H2,q2,s2,e2⟩:=newB (H:=H) (p:=j) (.frz o (.dT kvs))
 rw [q2]
 clear q2
 have npj:p≠j:=zw pg.ob hj (by intro z; cases z)
 have njg:g≠j:=zw pg.hg hj (by intro z; cases z)
 have njd:du≠j:=zw hd hj (by intro z; cases z)
 have njl:l≠j:=zw hl hj (by intro z; cases z)
 have nt:NoT [j] H:=NoT.dct hj NoT.nil
 have b2:Buts [j] H H2:=Buts.one s2 (by simp)
 have pg2:=pg.buts b2 nt (by simp [npj]) (by simp [njw]) (by simp [njg])
 have alb2:=yw alb b2 nt
 have al2:=y3 al b2 nt
 have hl2:=s2 _ _ njl hl
 have hd2:=s2 _ _ njd hd
 have hzd:=Al2.len al
 have lkp:kvs.length=(prsP bs.length).length:=by
  have z:=congrArg List.length pj.ks
  rw [List.length_map,List.length_map] at z
  rw [lb]
  exact z
 have out:∀ {H3:Hp} (c:Bool),Same H2 H3->c=hemP R bs ps->Thw H H3 (Q (.bl c)):=fun {H3} c s3 ec=>by
  refine ⟨j,o,kvs,hj,s3 _ _ e2,?_⟩
  obtain ⟨H4,q4,s4,e4⟩:=newB (H:=H3) (p:=j) (.dT kvs)
  rw [q4]
  clear q4
  rw [ec]
  exact k H4 (thawed (v:=.dT kvs) hj s2 s3 s4 e4)
 refine for_dict (fun i σ' H'=>∃ (u1 u2:Option V),σ'=[some (.ref p),some (.ref l),u1,u2]/\Same H2 H'/\((prsP bs.length).take i).any (fun n=>besB (boxB R bs n.1 n.2.1) (boxB R bs n.1 n.2.2) n.1 && ps.any fun p=>decide (p.1=n.1) && (decide (p.2.1=n.2.2) || decide (p.2.2=n.2.1)))=false) ⟨_,_,rfl,Same.refl _,rfl⟩ (by rintro _ _ _ _ ⟨_,_,_,g',_⟩; exact g' _ _ e2) ?_ ?_
 ·rintro i kv b σ' H3 hk hb ⟨u1,u2,rfl,s3,an⟩
  obtain ⟨q,hq,ek⟩:=Y4 pj.ks hk
  rw [ek] at hb
  have hin:=yK.mp (List.mem_of_getElem? hq)
  rw [<- lb] at hq hin
  have pg3:=pg2.same s3
  have hqt:SqT K H3 b [.int (q.1:Int),.int q.2.1,.int q.2.2]:=SqT.of hb
  refine ⟨_,rfl,p,_,_,rfl,pg3.ob,pg3.nm.one_of,_,rfl,_,rfl,p,b,l,R,gs,dx,fs,wl,g,xs,q,ys,bs,5990,rfl,pg3,hb,s3 _ _ hl2,zk alb2 s3,hin,by decide,fun v4 H4 s4 k4=>?_⟩
  have s34:=s3.trans s4
  have pg4:=pg3.same s4
  refine ⟨_,rfl,p,_,_,rfl,pg4.ob,pg4.nm.other_of,_,rfl,_,rfl,p,b,l,R,gs,dx,fs,wl,g,xs,q,ys,bs,5990,rfl,pg4,s4 _ _ hb,s34 _ _ hl2,zk alb2 s34,hin,by decide,fun v5 H5 s5 k5=>?_⟩
  have s45:=s4.trans s5
  have hqt5:=Kw.Same.tup s45 hqt
  refine ⟨_,rfl,b,_,_,_,rfl,rfl,hqt5,rfl,v4,v5,_,_,q.1,rfl,k4.same s5,k5,hin.1,fun H6 s6=>⟨_,rfl,?_⟩⟩
  have s26:=s3.trans (s45.trans s6)
  have s36:=s45.trans s6
  have hqt6:=Kw.Same.tup s36 hqt
  cases hc:besB (boxB R bs q.1 q.2.1) (boxB R bs q.1 q.2.2) q.1 with
  |false=>
   refine iteF ?_
   exact ⟨_,_,rfl,s26,jE _ hq an (by rw [hc]; rfl)⟩
  |true=>
   refine iteT ?_
   refine ⟨_,rfl,p,_,_,_,rfl,s26 _ _ pg2.ob,fd,du,rfl,⟨_,SqL.of (s26 _ _ hd2)⟩,j1 (K:=K) (a:=du) (xs:=ds) (fun m σ1 H'=>∃ (u2:Option V),σ1=[some (.ref p),some (.ref l),some (.ref b),u2]/\H'=H6/\(ps.take m).any (fun p=>decide (p.1=q.1) && (decide (p.2.1=q.2.2) || decide (p.2.2=q.2.1)))=false) ⟨_,rfl,rfl,rfl⟩ (by rintro _ _ _ _ ⟨_,_,rfl,_⟩; exact SqL.of (s26 _ _ hd2)) ?_ ?_⟩
   ·rintro m x σ1 H' hx ⟨u2,rfl,rfl,an2⟩
    obtain ⟨r,hr',c,rfl,hcr⟩:=Al2.get (zy al2 s26) hx
    have hrt:SqT K H' c [.int (r.1:Int),.int r.2.1,.int r.2.2]:=SqT.of hcr
    refine ⟨_,rfl,c,_,_,_,rfl,rfl,hrt,rfl,_,rfl,b,_,_,_,rfl,rfl,hqt6,rfl,rfl,_,rfl,?_⟩
    refine jD (fun c1=>?_) (fun c1=>?_)
    ·have c1':r.1=q.1:=by omega
     refine ⟨_,rfl,c,_,_,_,rfl,rfl,hrt,rfl,_,rfl,b,_,_,_,rfl,rfl,hqt6,rfl,rfl,_,rfl,?_⟩
     refine jD (fun c2=>?_) (fun c2=>?_)
     ·refine iteT ?_
      refine out true s26 ?_
      unfold hemP
      rw [jh _ hq (by rw [hc,jh _ hr' (by rw [decide_eq_true c1',decide_eq_true c2]; rfl)]; rfl)]
     ·refine ⟨_,rfl,c,_,_,_,rfl,rfl,hrt,rfl,_,rfl,b,_,_,_,rfl,rfl,hqt6,rfl,rfl,_,rfl,?_⟩
      refine jD (fun c3=>?_) (fun c3=>?_)
      ·refine out true s26 ?_
       unfold hemP
       rw [jh _ hq (by rw [hc,jh _ hr' (by rw [decide_eq_true c1',decide_eq_false c2,decide_eq_true c3]; rfl)]; rfl)]
      ·exact ⟨_,rfl,rfl,jE _ hr' an2 (by rw [decide_eq_true c1',decide_eq_false c2,decide_eq_false c3]; rfl)⟩
    ·refine iteF ?_
     exact ⟨_,rfl,rfl,jE _ hr' an2 (by rw [decide_eq_false (show ¬ r.1=q.1 by omega)]; rfl)⟩
   ·rintro σ1 H' ⟨u2,rfl,rfl,an2⟩
    rw [hzd,List.take_length] at an2
    exact ⟨_,_,rfl,s26,jE _ hq an (by rw [hc,an2]; rfl)⟩
 ·rintro σ' H3 ⟨u1,u2,rfl,s3,an⟩
  rw [lkp,List.take_length] at an
  obtain ⟨j',o',kvs',h1,h2,h3⟩:=out false s3 an.symm
  exact ⟨j',o',kvs',h1,h2,h3⟩
def j9 (K:PySem.W.Frag) (C:Addr):Sp:=fun vs H Q _=>∃ (p l:Addr) (R:Rat × Rat) (gs:List Bq) (dx:Addr) (fs:List (Str × V)) (wl g:Addr) (xs:List V) (j:Addr) (kvs:List (List Key × V)) (du:Addr) (ds:List V) (ps:List Pr) (ys:List V) (bs:List Bq) (c:Option Rat) (co:V),vs=[.ref p,.ref l]/\PlG K H C p R gs dx fs wl g xs/\PlJ K H R gs fs j kvs/\H j=some (.dT kvs)/\wl≠j/\fs.lookup ("due" : Str)=some (.ref du)/\H du=some (.lst ds)/\Al2 (PrH H) ds ps/\ps.length<=200/\gs.length<=6/\H l=some (.lst ys)/\Al2 (BqH K 5990 H) ys bs/\bs.length=gs.length/\fs.lookup ("coming" : Str)=some co/\OptB K H co c/\∀ (H1:Hp),Same H H1->Q (.bl (cnrP bs ps || cloP R gs c)) H1
theorem z8:FnScope ["self","boxes","numbers","other","one"] ["self","boxes"] (zD (zP (top 65) 15)):=⟨rfl,rfl,rfl,by decide+kernel,rfl,by decide+kernel,by decide+kernel⟩
theorem ok_Plane_has_a_corner (D:DfM K (C 0) "has_a_corner" "Plane.has_a_corner" (zP (top 65) 15) ["self","boxes"]) (T:Tx K mg C) (F_Plane_boxes_met:FnM P w K mg base 1 (C 0) "boxes_met" ["self"] (jt K (C 0))) (F_are_at_a_corner:Fn P w K mg base 5 "are_at_a_corner" ["one","other"] (ja K)) (F_Plane_is_coming:FnM P w K mg base 1 (C 0) "is_coming" ["self","pair"] (jx K (C 0))) (F_Plane_close_at_a_corner:FnM P w K mg base 1 (C 0) "close_at_a_corner" ["self","pair"] (yM K (C 0))):FnM P w K mg base 6 (C 0) "has_a_corner" ["self","boxes"] (j9 K (C 0)):=by
 refine D.ok0 z8 (fun vs H Q E h=>?_) (fun f cdv A outer s H vs Q E hr h=>?_)
 ·obtain ⟨p,l,R,gs,dx,fs,wl,g,xs,j,kvs,du,ds,ps,ys,bs,c,co,rfl,_⟩:=h
  rfl
 obtain ⟨p,l,R,gs,dx,fs,wl,g,xs,j,kvs,du,ds,ps,ys,bs,c,co,rfl,pg,pj,hj,njw,fd,hd,al,l2,l6,hl,alb,lb,fc,oc,k⟩:=h
 refine ⟨_,(zE (zN (i:=2) z8.nd rfl (Or.inl rfl) (Zn T.cl_Plane F_Plane_boxes_met (by decide) hr zG (pv 0)))
   (zE (yF PassesOwn.never rfl (yL (by rfl) T.b_range (zA (zV yG (by rfl) T.b_len PyProof.Rows.Boot.«len» (zA (pv 1) zB)) zB)) (za (i:=3) z8.nd rfl (Or.inl rfl)) (zF (yF PassesOwn.never rfl (yL (by rfl) T.b_range (zA (pv 3) zB)) (za (i:=4) z8.nd rfl (Or.inl rfl)) (zF (zh (ZW (jM (zQ Z4 (pv 4) (pv 2) (by first|rfl|with_unfolding_all rfl)) (ym (zQ Z4 (pv 3) (pv 2) (by first|rfl|with_unfolding_all rfl)))).pt (je (zn (zL F_are_at_a_corner (by decide) hr (by rfl) zG (zA (zH ix_list (pv 1) (pv 4) (fun _ _=>rfl)) (zA (zH ix_list (pv 1) (pv 3) (fun _ _=>rfl)) zB))) (fun _=>rfl)))).pt (zF (zM jN)) zU)))))
   (zF (zM (zV (call_any (K:=K) rfl rfl) (by rfl) T.b_any PyProof.Rows.Boot.«any» (zA (pe_thaw (@Jy _ _ _ _ _ _ _ _ _ _ ["self"] [0] rfl (JY (zT T.cl_Plane T.n_Plane_joints (pv 0))) rfl (by decide) rfl (by decide) rfl (by decide) (ZQ (j:=0) rfl rfl rfl rfl (.inl rfl)) (fun y c h=>h) (YO rfl) (fun C z Hc fp=>(yd (yb T.cl_Plane F_Plane_is_coming (by decide) hr zG (pv 1) (zA (pv 0) zB)) (yR (yb T.cl_Plane F_Plane_close_at_a_corner (by decide) hr zG (pv 1) (zA (pv 0) zB))))) (fun _=>rfl))) zB)))))),?_⟩
 have hzb:=Al2.len alb
 have npj:p≠j:=zw pg.ob hj (by intro z; cases z)
 refine ⟨_,rfl,p,_,_,rfl,pg.ob,pg.nm.boxes_met,p,dx,fs,du,ds,ps,rfl,pg.ob,fd,hd,al,l2,fun r H1 s1 e1=>?_⟩
 refine ⟨_,rfl,_,_,rfl,.inl ⟨_,SqL.of (s1 _ _ hl),rfl⟩,_,rfl,by omega,by omega,yI (n:=((ys.length:Nat):Int).toNat) (fun i σ1 H'=>∃ (u3 u4:Option V),σ1=[some (.ref p),some (.ref l),some (.ref r),u3,u4]/\Same H1 H'/\((List.range bs.length).take i).any (fun o=>(List.range o).any fun i=>(decide ((i:Int)∈numP ps) || decide ((o:Int)∈numP ps)) && crnB (bxAt bs i) (bxAt bs o))=false) ⟨_,_,rfl,Same.refl _,rfl⟩ ?_ ?_⟩
 ·rintro o σ1 H2 ho ⟨u3,u4,rfl,s2,an⟩
  have hob:o < bs.length:=by omega
  have ho':(List.range bs.length)[o]?=some o:=List.getElem?_range hob
  obtain ⟨yo,hyo⟩:∃ y,ys[o]?=some y:=⟨_,List.getElem?_eq_getElem (by omega)⟩
  refine ⟨_,rfl,_,rfl,by omega,by omega,yI (n:=(0+(o:Int)).toNat) (fun i σ1 H'=>∃ (u4:Option V),σ1=[some (.ref p),some (.ref l),some (.ref r),some (.int (0+(o:Int))),u4]/\Same H1 H'/\((List.range o).take i).any (fun i=>(decide ((i:Int)∈numP ps) || decide ((o:Int)∈numP ps)) && crnB (bxAt bs i) (bxAt bs o))=false) ⟨_,rfl,s2,rfl⟩ ?_ ?_⟩
  ·rintro i σ1 H3 hi ⟨u4,rfl,s3,an2⟩
   have hio:i < o:=by omega
   have hi':(List.range o)[i]?=some i:=List.getElem?_range hio
   obtain ⟨yi,hyi⟩:∃ y,ys[i]?=some y:=⟨_,List.getElem?_eq_getElem (by omega)⟩
   have s13:=s1.trans s3
   obtain ⟨bi,hbi,qi⟩:=Al2.get (zk alb s13) hyi
   obtain ⟨bo,hbo,qo⟩:=Al2.get (zk alb s13) hyo
   have ei:bxAt bs i=bi:=by
    unfold bxAt
    rw [List.getD_eq_getElem?_getD,hbi]
    rfl
   have eo:bxAt bs o=bo:=by
    unfold bxAt
    rw [List.getD_eq_getElem?_getD,hbo]
    rfl
   have hr3:SqL K H3 r (yD (numP ps)):=SqL.of (s3 _ _ e1)
   refine ⟨_,rfl,_,rfl,r,_,rfl,.inl hr3,rfl,Z1 _,_,rfl,?_⟩
   show if (inV (V.int (0+(i:Int))) (yD (numP ps)))=true then _ else _
   rw [show (0:Int)+(i:Int)=(i:Int) by omega,show inV (V.int (i:Int)) (yD (numP ps))=decide ((i:Int)∈numP ps) from Jd _ _]
   refine zb (fun c1=>?_) (fun c1=>?_)
   ·refine iteT ?_
    refine ⟨_,rfl,_,rfl,l,_,_,_,rfl,rfl,SqL.of (s13 _ _ hl),zr hyi,_,rfl,_,rfl,l,_,_,_,rfl,rfl,SqL.of (s13 _ _ hl),atI_z hyo,_,_,bi,bo,rfl,qi,qo,fun H4 s4=>⟨_,rfl,?_⟩⟩
    have s14:=s3.trans s4
    cases hc:crnB bi bo with
    |true=>
     refine iteT ?_
     have z:=k H4 (s1.trans s14)
     have e:cnrP bs ps=true:=by
      unfold cnrP
      exact jh _ ho' (jh _ hi' (by rw [ei,eo,hc]; simp [c1]))
     rw [e,Bool.true_or] at z
     exact z
    |false=>
     refine iteF ?_
     exact ⟨_,rfl,s14,jE _ hi' an2 (by rw [ei,eo,hc,Bool.and_false])⟩
   ·refine ⟨_,rfl,_,rfl,r,_,rfl,.inl hr3,rfl,Z1 _,_,rfl,?_⟩
    show if (inV (V.int (0+(o:Int))) (yD (numP ps)))=true then _ else _
    rw [show inV (V.int (0+(o:Int))) (yD (numP ps))=decide ((o:Int)∈numP ps) by rw [show (0:Int)+(o:Int)=(o:Int) by omega]; exact Jd _ _]
    refine zb (fun c2=>?_) (fun c2=>?_)
    ·skip
     refine ⟨_,rfl,_,rfl,l,_,_,_,rfl,rfl,SqL.of (s13 _ _ hl),zr hyi,_,rfl,_,rfl,l,_,_,_,rfl,rfl,SqL.of (s13 _ _ hl),atI_z hyo,_,_,bi,bo,rfl,qi,qo,fun H4 s4=>⟨_,rfl,?_⟩⟩
     have s14:=s3.trans s4
     cases hc:crnB bi bo with
     |true=>
      refine iteT ?_
      have z:=k H4 (s1.trans s14)
      have e:cnrP bs ps=true:=by
       unfold cnrP
       exact jh _ ho' (jh _ hi' (by rw [ei,eo,hc]; simp [c2]))
      rw [e,Bool.true_or] at z
      exact z
     |false=>
      refine iteF ?_
      exact ⟨_,rfl,s14,jE _ hi' an2 (by rw [ei,eo,hc,Bool.and_false])⟩
    ·refine iteF ?_
     exact ⟨_,rfl,s3,jE _ hi' an2 (by rw [decide_eq_false c1,decide_eq_false c2]; rfl)⟩
  ·rintro σ1 H3 ⟨u4,rfl,s3,an2⟩
   rw [show (0+(o:Int)).toNat=o by omega,List.take_of_length_le (by rw [List.length_range]; exact Nat.le_refl _)] at an2
   exact ⟨_,_,rfl,s3,jE _ ho' an an2⟩
 ·rintro σ1 H2 ⟨u3,u4,rfl,s2,an⟩
  rw [show ((ys.length:Nat):Int).toNat=bs.length by omega,List.take_of_length_le (by rw [List.length_range]; exact Nat.le_refl _)] at an
  have s12:=s1.trans s2
  have hj2:=s12 _ _ hj
  refine ⟨_,rfl,p,_,_,_,rfl,s12 _ _ pg.ob,pj.fj,j,kvs,rfl,hj2,fun o=>?_⟩
  obtain ⟨H3,q3,s3,e3⟩:=newB (H:=H2) (p:=j) (.frz o (.dT kvs))
  rw [q3]
  clear q3
  have nt:NoT [j] H2:=NoT.dct hj2 NoT.nil
  have b3:Buts [j] H2 H3:=Buts.one s3 (by simp)
  have ob3:=s3 _ _ npj (s12 _ _ pg.ob)
  have pj3:PlJ K H3 R gs fs j kvs:=(pj.same s12).buts b3 nt (.inr ⟨o,e3⟩)
  have oc3:=(oc.same s12).buts b3 nt
  have lk:kvs.length<=200:=by
   have z:=congrArg List.length pj.ks
   rw [List.length_map,List.length_map] at z
   have:=Z8 l6
   omega
  refine lc_dictB (ps:=prsP gs.length) (fun q=>cmgP R gs c q && corP R gs q) pj.ks e3 (Nat.le_trans lk (by decide)) ?_ ?_
  ·intro q b H4 hq s4 hb Q' hQ
   have hin:=yK.mp hq
   refine ⟨_,rfl,p,_,_,rfl,s4 _ _ ob3,pg.nm.is_coming,_,rfl,p,b,R,gs,dx,_,j,kvs,q,_,co,rfl,s4 _ _ ob3,pj3.same s4,hb,hin,fc,oc3.same s4,_,rfl,?_⟩
   cases hc:cmgP R gs c q with
   |false=>
    refine iteF ?_
    have z:=hQ H4 (Same.refl _)
    rw [hc,Bool.false_and] at z
    exact z
   |true=>
    refine iteT ?_
    refine ⟨_,rfl,p,_,_,rfl,s4 _ _ ob3,pg.nm.close_at_a_corner,_,rfl,p,b,R,gs,dx,_,j,kvs,q,rfl,s4 _ _ ob3,pj3.same s4,hb,hin,fun H5 s5=>?_⟩
    have z:=hQ H5 s5
    rw [hc,Bool.true_and] at z
    exact z
  ·intro H4 s4 r4 hr4
   obtain ⟨H5,q5,s5,e5⟩:=newO hr4 (.lst (((prsP gs.length).map fun q=>cmgP R gs c q && corP R gs q).map V.bl))
   rw [q5]
   clear q5
   refine ⟨j,o,kvs,hj2,(s4.trans s5) _ _ e3,?_⟩
   obtain ⟨H6,q6,s6,e6⟩:=newB (H:=H5) (p:=j) (.dT kvs)
   rw [q6]
   clear q6
   have s26:Same H2 H6:=thawed (v:=.dT kvs) hj2 s3 (s4.trans s5) s6 e6
   have r4j:r4≠j:=fun z=>by
    rw [z,s4 _ _ e3] at hr4
    cases hr4
   refine ⟨r4,_,rfl,SqL.of (s6 _ _ r4j e5),?_⟩
   have z:=k H6 (s12.trans s26)
   unfold cnrP at z
   rw [an,Bool.false_or] at z
   unfold cloP at z
   rw [show (((prsP gs.length).map fun q=>cmgP R gs c q && corP R gs q).any id)=(prsP gs.length).any fun p=>cmgP R gs c p && corP R gs p by rw [List.any_map]; rfl]
   exact z
def Zt (K:PySem.W.Frag) (C:Addr):Sp:=fun vs H Q _=>∃ (p:Addr) (R:Rat × Rat) (gs:List Bq) (dx:Addr) (fs:List (Str × V)) (wl g:Addr) (xs:List V) (j:Addr) (kvs:List (List Key × V)) (du:Addr) (ds:List V) (ps:List Pr) (now t:Rat) (pc:Addr),vs=[.ref p]/\PlG K H C p R gs dx fs wl g xs/\PlJ K H R gs fs j kvs/\H j=some (.dT kvs)/\wl≠j/\fs.lookup ("due" : Str)=some (.ref du)/\H du=some (.lst ds)/\Al2 (PrH H) ds ps/\ps.length<=200/\gs.length<=6/\ps=dueP R gs now/\comP R gs now=some t/\fs.lookup ("coming" : Str)=some (.ref pc)/\FQ K H pc t/\FB 2000 t/\∀ (H1:Hp),Same H H1->Q (.bl (crwP R gs now)) H1
theorem jL:FnScope ["self","boxes"] ["self"] (zD (zP (top 65) 12)):=⟨rfl,rfl,rfl,by decide+kernel,rfl,by decide+kernel,by decide+kernel⟩
theorem ok_Plane_is_crowded (D:DfM K (C 0) "is_crowded" "Plane.is_crowded" (zP (top 65) 12) ["self"]) (T:Tx K mg C) (F_Plane_bodies_at:FnM P w K mg base 5 (C 0) "bodies_at" ["self","moment"] (jy K (C 0))) (F_Plane_has_two_meetings:FnM P w K mg base 2 (C 0) "has_two_meetings" ["self"] (jF K (C 0))) (F_Plane_is_hemmed_in:FnM P w K mg base 6 (C 0) "is_hemmed_in" ["self","boxes"] (ZA K (C 0))) (F_Plane_has_a_corner:FnM P w K mg base 6 (C 0) "has_a_corner" ["self","boxes"] (j9 K (C 0))):FnM P w K mg base 7 (C 0) "is_crowded" ["self"] (Zt K (C 0)):=by
 refine D.ok0 jL (fun vs H Q E h=>?_) (fun f cdv A outer s H vs Q E hr h=>?_)
 ·obtain ⟨p,R,gs,dx,fs,wl,g,xs,j,kvs,du,ds,ps,now,t,pc,rfl,_⟩:=h
  rfl
 obtain ⟨p,R,gs,dx,fs,wl,g,xs,j,kvs,du,ds,ps,now,t,pc,rfl,pg,pj,hj,njw,fd,hd,al,l2,l6,eps,ec,fc,gt,dt,k⟩:=h
 refine ⟨_,(zE (zN (i:=1) jL.nd rfl (Or.inl rfl) (yb T.cl_Plane F_Plane_bodies_at (by decide) hr zG (pv 0) (zA (zT T.cl_Plane T.n_Plane_coming (pv 0)) zB)))
   (zF (zM (pe_or (Zn T.cl_Plane F_Plane_has_two_meetings (by decide) hr zG (pv 0)) (pe_or (yb T.cl_Plane F_Plane_is_hemmed_in (by decide) hr zG (pv 0) (zA (pv 1) zB)) (yR (yb T.cl_Plane F_Plane_has_a_corner (by decide) hr zG (pv 0) (zA (pv 1) zB)))))))),?_⟩
 refine ⟨_,rfl,p,_,_,rfl,pg.ob,pg.nm.bodies_at,_,rfl,p,_,_,_,rfl,pg.ob,fc,p,pc,dx,g,fs,xs,gs,t,rfl,pg.ob,pg.fg,pg.hg,pg.al,l6,gt,dt,fun r ys H1 s1 n1 e1 al1=>?_⟩
 have eg:((comP R gs now).getD 0)=t:=by rw [ec]; rfl
 unfold crwP at k
 rw [eg,<- eps] at k
 have pg1:=pg.same s1
 have al1d:=zy al s1
 refine ⟨_,rfl,p,_,_,rfl,pg1.ob,pg1.nm.has_two_meetings,p,dx,fs,du,ds,ps,rfl,pg1.ob,fd,s1 _ _ hd,al1d,l2,pg1.nm.boxes_met,fun H2 s2=>⟨_,rfl,?_⟩⟩
 have s12:=s1.trans s2
 cases c1:twoP ps with
 |true=>
  have z:=k H2 s12
  rw [c1,Bool.true_or] at z
  exact iteT z
 |false=>
  refine iteF ?_
  rw [c1,Bool.false_or] at k
  have pg2:=pg.same s12
  refine ⟨_,rfl,p,_,_,rfl,pg2.ob,pg2.nm.is_hemmed_in,_,rfl,p,r,R,gs,dx,fs,wl,g,xs,j,kvs,du,ds,ps,ys,_,rfl,pg2,pj.same s12,s12 _ _ hj,njw,fd,s12 _ _ hd,zy al s12,l2,l6,s2 _ _ e1,zk al1 s2,by rw [List.length_map],fun H3 s3=>⟨_,rfl,?_⟩⟩
  have s13:=s12.trans s3
  cases c2:hemP R (gs.map (atB t)) ps with
  |true=>
   have z:=k H3 s13
   rw [c2,Bool.true_or] at z
   exact iteT z
  |false=>
   refine iteF ?_
   rw [c2,Bool.false_or] at k
   have pg3:=pg.same s13
   exact ⟨_,rfl,p,_,_,rfl,pg3.ob,pg3.nm.has_a_corner,_,rfl,p,r,R,gs,dx,fs,wl,g,xs,j,kvs,du,ds,ps,ys,_,some t,.ref pc,rfl,pg3,pj.same s13,s13 _ _ hj,njw,fd,s13 _ _ hd,zy al s13,l2,l6,(s2.trans s3) _ _ e1,zk al1 (s2.trans s3),by rw [List.length_map],fc,.inr ⟨t,pc,rfl,rfl,Kw.Same.tup s13 gt,dt⟩,fun H4 s4=>by have z:=k H4 (s13.trans s4); rw [ec] at z; exact z⟩
def spP_part (K:PySem.W.Frag) (C:Addr):Sp:=fun vs H Q _=>∃ (p pb:Addr) (R:Rat × Rat) (gs:List Bq) (dx:Addr) (fs:List (Str × V)) (wl g:Addr) (xs:List V) (j:Addr) (kvs:List (List Key × V)) (q:Pr) (B:Nat),vs=[.ref p,.ref pb]/\PlG K H C p R gs dx fs wl g xs/\PlJ K H R gs fs j kvs/\H j=some (.dT kvs)/\wl≠j/\H pb=some (.tup ((keyP q).map kV))/\InP gs.length q/\gs.length<=6/\WtB gs/\CmP B R gs/\B<=1900/\∀ (xs':List V) (kvs':List (List Key × V)) (H1:Hp),Buts [g,j] H H1->PlG K H1 C p R (prtP R gs q) dx fs wl g xs'->PlJ K H1 R (prtP R gs q) fs j kvs'->H1 j=some (.dT kvs')->Q .non H1
theorem zu:FnScope ["self","pair","way","one","other","left","right","changed","near"] ["self","pair"] (zD (zP (top 65) 17)):=⟨rfl,rfl,rfl,by decide+kernel,rfl,by decide+kernel,by decide+kernel⟩
theorem ok_Plane_part (D:DfM K (C 0) "part" "Plane.part" (zP (top 65) 17) ["self","pair"]) (T:Tx K mg C) (F_Plane_one_of:FnM P w K mg base 1 (C 0) "one_of" ["self","pair","boxes"] (jY K (C 0))) (F_Plane_other_of:FnM P w K mg base 1 (C 0) "other_of" ["self","pair","boxes"] (yy K (C 0))) (F_far_going:Fn P w K mg base 4 "far_going" ["box","way"] (ZN K)) (F_near_going:Fn P w K mg base 1 "near_going" ["box","way"] (jq K)) (F_with_far_going:Fn P w K mg base 4 "with_far_going" ["box","way","going"] (jp K)) (F_with_near_going:Fn P w K mg base 1 "with_near_going" ["box","way","going"] (yh K)) (F_parted:Fn P w K mg base 5 "parted" ["own","far"] (sp_parted K)) (F_Plane_joint_of:FnM P w K mg base 5 (C 0) "joint_of" ["self","pair"] (ZV K (C 0))):FnM P w K mg base 6 (C 0) "part" ["self","pair"] (spP_part K (C 0)):=by
 refine D.ok0 zu (fun vs H Q E h=>?_) (fun f cdv A outer s H vs Q E hr h=>?_)
 ·obtain ⟨p,pb,R,gs,dx,fs,wl,g,xs,j,kvs,q,B,rfl,_⟩:=h
  rfl
 obtain ⟨p,pb,R,gs,dx,fs,wl,g,xs,j,kvs,q,B,rfl,pg,pj,hj,njw,hb,hin,l6,hw,cm,hB,k⟩:=h
 refine ⟨_,(zE (zN (i:=2) zu.nd rfl (Or.inl rfl) (zH ix_tup (pv 1) zC (fun _ _=>rfl)))
   (zE (zN (i:=3) zu.nd rfl (Or.inl rfl) (yb T.cl_Plane F_Plane_one_of (by decide) hr zG (pv 0) (zA (pv 1) (zA (zT T.cl_Plane T.n_Plane_goings (pv 0)) zB))))
   (zE (zN (i:=4) zu.nd rfl (Or.inl rfl) (yb T.cl_Plane F_Plane_other_of (by decide) hr zG (pv 0) (zA (pv 1) (zA (zT T.cl_Plane T.n_Plane_goings (pv 0)) zB))))
   (zE (zN (i:=5) zu.nd rfl (Or.inl rfl) (zL F_far_going (by decide) hr (by rfl) zG (zA (pv 3) (zA (pv 2) zB))))
   (zE (zN (i:=6) zu.nd rfl (Or.inl rfl) (zL F_near_going (by decide) hr (by rfl) zG (zA (pv 4) (zA (pv 2) zB))))
   (zE (zh (zQ YU (zH ix_tup (pv 1) zC (fun _ _=>rfl)) zC (zS _)) (zF (YK (zL F_with_far_going (by decide) hr (by rfl) zG (zA (pv 3) (zA (pv 2) (zA (zL F_parted (by decide) hr (by rfl) zG (zA (pv 5) (zA (pv 6) zB))) zB)))) (Y0 (zT T.cl_Plane T.n_Plane_goings (pv 0)) (zH ix_tup (pv 1) zC (fun _ _=>rfl)) j2))) zU)
   (zE (zh (zQ YU (zH ix_tup (pv 1) zC (fun _ _=>rfl)) zC (zS _)) (zF (YK (zL F_with_near_going (by decide) hr (by rfl) zG (zA (pv 4) (zA (pv 2) (zA (zL F_parted (by decide) hr (by rfl) zG (zA (pv 6) (zA (pv 5) zB))) zB)))) (Y0 (zT T.cl_Plane T.n_Plane_goings (pv 0)) (zH ix_tup (pv 1) zC (fun _ _=>rfl)) j2))) zU)
   (zE (@ps_lcT _ _ _ _ _ _ _ _ _ _ _ _ [] [] 7 _ _ _ zu.nd rfl rfl rfl rfl (pi_tup (Yi (sl_tupK (K:=K) rfl) (pv 1) (Jk zC) JW)) rfl (by decide) rfl (by decide) rfl (by decide) Zz (fun _ _ h=>nomatch h) (Yu rfl) (fun C z Hc fp=>pts_one (zQ YU (pv 0) zC (zS _))) (fun C z Hc fp=>(pv 0)) (fun _=>rfl))
   (zF (yF PassesOwn.never rfl (yU (yW (call_list_dct rfl) (by rfl) T.b_list PyProof.Rows.Boot.«list» (zA (zT T.cl_Plane T.n_Plane_joints (pv 0)) zB))) (za (i:=8) zu.nd rfl (Or.inl rfl)) (zF (zh (ZW (zQ ZB (zH ix_tup (pv 8) zC (fun _ _=>rfl)) (pv 2) (zS _)) (je (jM (zQ Z4 (zH ix_tup (pv 8) zC (fun _ _=>rfl)) (pv 7) (by first|rfl|with_unfolding_all rfl)) (ym (zQ Z4 (zH ix_tup (pv 8) zC (fun _ _=>rfl)) (pv 7) (by first|rfl|with_unfolding_all rfl)))).pt)).pt (zF (ps_dput (YC (u100 hr)) (zT T.cl_Plane T.n_Plane_joints (pv 0)) (pv 8) (yb T.cl_Plane F_Plane_joint_of (by decide) hr zG (pv 0) (zA (pv 8) zB)) rfl)) zU)))))))))))),?_⟩
 have hq:SqT K H pb [.int (q.1:Int),.int q.2.1,.int q.2.2]:=SqT.of hb
 have hz:=Al2.len pg.al
 have npg:p≠g:=zw pg.ob pg.hg (by intro z; cases z)
 have npj:p≠j:=zw pg.ob hj (by intro z; cases z)
 have njg:j≠g:=zw hj pg.hg (by intro z; cases z)
 obtain ⟨wkv,hwl⟩:∃ kv,H wl=some (.dT kv):=by
  obtain ⟨_,_,_,_,e,_⟩:=pg.ws
  exact ⟨_,e⟩
 have nwg:wl≠g:=zw hwl pg.hg (by intro z; cases z)
 obtain ⟨f1,f2⟩:=cm.fbs (q:=q) hw hin (by omega)
 refine ⟨_,rfl,pb,_,_,_,rfl,rfl,hq,rfl,?_⟩
 refine ⟨_,rfl,p,_,_,rfl,pg.ob,pg.nm.one_of,_,rfl,_,rfl,p,_,_,_,rfl,pg.ob,pg.fg,p,pb,g,R,gs,dx,fs,wl,g,xs,q,xs,gs,1990,rfl,pg,hb,pg.hg,pg.al,hin,Nat.le_refl _,fun v1 H1 s1 k1=>?_⟩
 have pg1:=pg.same s1
 refine ⟨_,rfl,p,_,_,rfl,pg1.ob,pg1.nm.other_of,_,rfl,_,rfl,p,_,_,_,rfl,pg1.ob,pg1.fg,p,pb,g,R,gs,dx,fs,wl,g,xs,q,xs,gs,1990,rfl,pg1,s1 _ _ hb,pg1.hg,pg1.al,hin,Nat.le_refl _,fun v2 H2 s2 k2=>?_⟩
 refine ⟨_,rfl,_,rfl,v1,_,q.1,rfl,k1.same s2,hin.1,(cm.far q.1 q.2.1).mono (by omega),fun r3 H3 s3 k3=>?_⟩
 refine ⟨_,rfl,_,rfl,v2,_,q.1,rfl,k2.same s3,hin.1,fun r4 H4 s4 k4=>?_⟩
 have s24:=s3.trans s4
 have s14:=s2.trans s24
 have s04:=s1.trans s14
 have pg4:=pg.same s04
 have hq4:=Kw.Same.tup s04 hq
 have k14:=k1.same s14
 have k24:=k2.same s24
 have k34:=k3.same s4
 have mA:0<=q.2.1->(boxB R gs q.1 q.2.1).m≠none:=fun z=>by
  obtain ⟨m,em,_⟩:=jz (R:=R) (d:=q.1) hw z (hin.l1 z)
  rw [em]
  exact fun y=>nomatch y
 have mB:0<=q.2.2->(boxB R gs q.1 q.2.2).m≠none:=fun z=>by
  obtain ⟨m,em,_⟩:=jz (R:=R) (d:=q.1) hw z (hin.l2 z)
  rw [em]
  exact fun y=>nomatch y
 have ntg:NoT [g] H4:=NoT.lst pg4.hg NoT.nil
 refine g_go ?_
 dsimp only
 refine cut1 (fun σ' H'=>∃ (xs1:List V),σ'=[some (.ref p),some (.ref pb),some (.int (q.1:Int)),some v1,some v2,some (.ref r3),some (.ref r4),none,none]/\But g H4 H'/\H' g=some (.lst xs1)/\Al2 (BqH K 1990 H') xs1 (prtA R gs q)) (fun N hN=>?_) ?_
 ·refine ⟨_,rfl,pb,_,_,_,rfl,rfl,hq4,rfl,_,_,rfl,rfl,_,rfl,?_⟩
  refine zb (fun c=>?_) (fun c=>?_)
  ·obtain ⟨fa,fb,fc⟩:=f1 c
   refine ⟨_,rfl,_,rfl,_,rfl,_,rfl,_,_,farG (boxB R gs q.1 q.2.1) q.1,yA (boxB R gs q.1 q.2.2) q.1,rfl,k34,k4,.inr (mA c),fa,fb,fun r5 a5 c5 ys5 H5 s5 h5 g5 g5'=>?_⟩
   refine ⟨v1,_,q.1,r5,a5,c5,_,_,ys5,rfl,k14.same s5,hin.1,h5,g5,g5',fa,fb,fc,fun r6 H6 s6 k6=>?_⟩
   have s46:=s5.trans s6
   have pg6:=pg4.same s46
   have hq6:=Kw.Same.tup s46 hq4
   refine ⟨_,rfl,p,_,_,_,rfl,pg6.ob,pg6.fg,_,rfl,pb,_,_,_,rfl,rfl,hq6,rfl,g,xs,_,q.2.1.toNat,rfl,rfl,pg6.hg,by rw [show q.2.1=((q.2.1.toNat:Nat):Int) by omega]; exact Jf (by have:=hin.l1 c; omega),?_⟩
   obtain ⟨H7,q7,s7,e7⟩:=newB (H:=H6) (p:=g) (.lst (xs.set q.2.1.toNat (V.ref r6)))
   dsimp only
   rw [q7]
   clear q7
   refine hN _ _ ⟨_,rfl,(But.of s46).trans s7,e7,?_⟩
   have nt6:NoT [g] H6:=NoT.lst pg6.hg NoT.nil
   have b7:Buts [g] H6 H7:=Buts.one s7 (by simp)
   unfold prtA
   rw [if_pos c]
   exact Al2.set (yw pg6.al b7 nt6) (k6.buts b7 nt6)
  ·refine hN _ _ ⟨xs,rfl,But.refl _,pg4.hg,?_⟩
   unfold prtA
   rw [if_neg c]
   exact pg4.al
 rintro σ' H5 ⟨xs1,rfl,s5,hg5,al5⟩
 have b5:Buts [g] H4 H5:=Buts.one s5 (by simp)
 have ob5:=s5 _ _ npg pg4.ob
 have hq5:=b5.tup ntg hq4
 have hz5:=Al2.len al5
 rw [Zm] at hz5
 refine cut1 (fun σ' H'=>∃ (xs2:List V),σ'=[some (.ref p),some (.ref pb),some (.int (q.1:Int)),some v1,some v2,some (.ref r3),some (.ref r4),none,none]/\But g H5 H'/\H' g=some (.lst xs2)/\Al2 (BqH K 1990 H') xs2 (prtP R gs q)) (fun N hN=>?_) ?_
 ·refine ⟨_,rfl,pb,_,_,_,rfl,rfl,hq5,rfl,_,_,rfl,rfl,_,rfl,?_⟩
  refine zb (fun c=>?_) (fun c=>?_)
  ·obtain ⟨fa,fb⟩:=f2 c
   have go3:GoQ K 1990 H5 (.ref r3) (farG (boxB R gs q.1 q.2.1) q.1):=by
    obtain ⟨p',a',c',e',h1',h2',h3',d'⟩:=k34
    exact ⟨p',a',c',e',b5.tup ntg h1',b5.tup ntg h2',b5.tup ntg h3',d'⟩
   have go4:GoQ K 1990 H5 (.ref r4) (yA (boxB R gs q.1 q.2.2) q.1):=by
    obtain ⟨p',a',c',e',h1',h2',h3',d'⟩:=k4
    exact ⟨p',a',c',e',b5.tup ntg h1',b5.tup ntg h2',b5.tup ntg h3',d'⟩
   refine ⟨_,rfl,_,rfl,_,rfl,_,rfl,_,_,yA (boxB R gs q.1 q.2.2) q.1,farG (boxB R gs q.1 q.2.1) q.1,rfl,go4,go3,.inr (mB c),fa,fb,fun r6 a6 c6 ys6 H6 s6 h6 g6 g6'=>?_⟩
   refine ⟨v2,_,q.1,r6,a6,c6,_,_,ys6,rfl,(k24.buts b5 ntg).same s6,hin.1,h6,g6,g6',fa,fb,fun r7 H7 s7 k7=>?_⟩
   have s57:=s6.trans s7
   have hq7:=Kw.Same.tup s57 hq5
   refine ⟨_,rfl,p,_,_,_,rfl,s57 _ _ ob5,pg.fg,_,rfl,pb,_,_,_,rfl,rfl,hq7,rfl,g,xs1,_,q.2.2.toNat,rfl,rfl,s57 _ _ hg5,by rw [show q.2.2=((q.2.2.toNat:Nat):Int) by omega]; exact Jf (by have:=hin.l2 c; omega),?_⟩
   obtain ⟨H8,q8,s8,e8⟩:=newB (H:=H7) (p:=g) (.lst (xs1.set q.2.2.toNat (V.ref r7)))
   dsimp only
   rw [q8]
   clear q8
   refine hN _ _ ⟨_,rfl,(But.of s57).trans s8,e8,?_⟩
   have nt7:NoT [g] H7:=NoT.lst (s57 _ _ hg5) NoT.nil
   have b8:Buts [g] H7 H8:=Buts.one s8 (by simp)
   unfold prtP
   rw [if_pos c]
   exact Al2.set (yw (zk al5 s57) b8 nt7) (k7.buts b8 nt7)
  ·refine hN _ _ ⟨xs1,rfl,But.refl _,hg5,?_⟩
   unfold prtP
   rw [if_neg c]
   exact al5
 rintro σ' H6 ⟨xs2,rfl,s6,hg6,al6⟩
 have b06:But g H H6:=(But.of s04).trans (s5.trans s6)
 have bs06:Buts [g] H H6:=Buts.one b06 (by simp)
 have ntg0:NoT [g] H:=NoT.lst pg.hg NoT.nil
 have hq6:=bs06.tup ntg0 hq
 refine ⟨_,rfl,_,rfl,pb,_,rfl,hq6,cut_gt (n:=3) (by decide) (by decide),?_⟩
 intro p7 n7
 obtain ⟨H7,q7,s7,e7⟩:=newO n7 (.tup (cutV [.int (q.1:Int),.int q.2.1,.int q.2.2] (some 1) none))
 rw [q7]
 clear q7
 have e7':H7 p7=some (.tup [.int q.2.1,.int q.2.2]):=e7
 refine ⟨p7,rfl,⟨_,SqT.of e7'⟩,lc_tupG (K:=K) (fun v=>match v with|.int i=>decide (0<=i)|_=>false) (SqT.of e7') (by show 2<=sizeLine; decide) ?_ ?_ ?_⟩
 ·intro x hx Q1 q1
  obtain ⟨i,rfl⟩:∃ i:Int,x=.int i:=by
   rcases List.mem_cons.mp hx with rfl|hx
   ·exact ⟨_,rfl⟩
   ·rw [List.mem_singleton.mp hx]
    exact ⟨_,rfl⟩
  exact ⟨_,rfl,_,_,rfl,rfl,_,rfl,q1⟩
 ·intro x hx Q1 q1
  exact ⟨_,rfl,q1⟩
 intro l8 hl8
 obtain ⟨ch,ech⟩:∃ ch:List Int,ch=[q.2.1,q.2.2].filter fun i=>decide (0<=i):=⟨_,rfl⟩
 have ef:(([.int q.2.1,.int q.2.2]:List V).filter fun v=>match v with|.int i=>decide (0<=i)|_=>false)=ch.map V.int:=by
  rw [ech]
  exact List.filter_map (f:=V.int) (l:=[q.2.1,q.2.2]) (p:=fun v=>match v with|.int i=>decide (0<=i)|_=>false)
 rw [ef]
 obtain ⟨H8,q8,s8,e8⟩:=newO hl8 (.lst (ch.map V.int))
 rw [q8]
 clear q8
 have mch:∀ i:Int,i∈ch↔0<=i/\(i=q.2.1\/i=q.2.2):=fun i=>by
  rw [ech,List.mem_filter]
  simp only [List.mem_cons,List.not_mem_nil,or_false,decide_eq_true_eq]
  exact ⟨fun h=>⟨h.2,h.1⟩,fun h=>⟨h.2,h.1⟩⟩
 have s68:=s7.trans s8
 have b08:Buts [g] H H8:=bs06.trans (Buts.of s68)
 have hj8:H8 j=some (.dT kvs):=b08 _ _ (by simp [njg]) hj
 have ob8:=b08 _ _ (by simp [npg]) pg.ob
 refine ⟨_,rfl,p,_,_,_,rfl,ob8,pj.fj,j,kvs,prsP gs.length,rfl,hj8,pj.ks,fun l9 ds hl9 al9=>?_⟩
 obtain ⟨H9,q9,s9,e9⟩:=newO hl9 (.lst ds)
 rw [q9]
 clear q9
 have hzd:=Al2.len al9
 have s69:=s68.trans s9
 have nd:=zAA l6
 have cm':=cm.part hw hin
 have hj9:=s9 _ _ hj8
 have b09:Buts [g] H H9:=b08.trans (Buts.of s9)
 have pg9:PlG K H9 (C 0) p R (prtP R gs q) dx fs wl g xs2:=⟨s9 _ _ ob8,pg.fw,pg.fg,pg.ws.buts b09 ntg0 (by simp [nwg]),s69 _ _ hg6,zk al6 s69,pg.nm⟩
 have l9j:l9≠j:=fun z=>by rw [z,hj8] at hl9; cases hl9
 have l8j:l8≠j:=fun z=>by rw [z,(s7 _ _ (bs06 _ _ (by simp [njg]) hj))] at hl8; cases hl8
 have ntj:NoT [j] H9:=NoT.dct hj9 NoT.nil
 refine ⟨l9,rfl,⟨_,SqL.of e9⟩,j1 (K:=K) (a:=l9) (xs:=ds) (fun i σ1 H'=>∃ (u8:Option V) (kv:List (List Key × V)),σ1=[some (.ref p),some (.ref pb),some (.int (q.1:Int)),some v1,some v2,some (.ref r3),some (.ref r4),some (.ref l8),u8]/\Buts [j] H9 H'/\H' j=some (.dT kv)/\kv.map (·.1)=(prsP gs.length).map keyP/\Al2 (OptB K H') (kv.map (·.2)) (mixL (jntP R gs) (jntP R (prtP R gs q)) (prsP gs.length) i)) ⟨_,kvs,rfl,Buts.refl,hj9,pj.ks,by rw [mix_zero]; exact yT pj.js b09 ntg0⟩ (by rintro _ _ _ _ ⟨_,_,_,g',_⟩; exact SqL.of (g' _ _ (by simp [l9j]) e9)) ?_ ?_⟩
 ·rintro i x σ1 H10 hx ⟨u8,kv,rfl,s10,hj10,ks10,js10⟩
  have hi:i < ds.length:=(List.getElem?_eq_some_iff.mp hx).1
  obtain ⟨r,hr',c,rfl,hc9⟩:=Al2.get (y3 (zy al9 s9) s10 ntj) hx
  have hrin:=yK.mp (List.mem_of_getElem? hr')
  have hrt:SqT K H10 c [.int (r.1:Int),.int r.2.1,.int r.2.2]:=SqT.of hc9
  have hch:SqL K H10 l8 (ch.map V.int):=SqL.of (s10 _ _ (by simp [l8j]) (s9 _ _ e8))
  have stay:jntP R (prtP R gs q) r=jntP R gs r->∃ (u8:Option V) (kv:List (List Key × V)),[some (V.ref p),some (.ref pb),some (.int (q.1:Int)),some v1,some v2,some (.ref r3),some (.ref r4),some (.ref l8),some (.ref c)]=[some (.ref p),some (.ref pb),some (.int (q.1:Int)),some v1,some v2,some (.ref r3),some (.ref r4),some (.ref l8),u8]/\Buts [j] H9 H10/\H10 j=some (.dT kv)/\kv.map (·.1)=(prsP gs.length).map keyP/\Al2 (OptB K H10) (kv.map (·.2)) (mixL (jntP R gs) (jntP R (prtP R gs q)) (prsP gs.length) (i+1)):=fun e=>⟨_,kv,rfl,s10,hj10,ks10,by rw [<- mix_same hr' e]; exact js10⟩
  refine ⟨_,rfl,c,_,_,_,rfl,rfl,hrt,rfl,_,rfl,rfl,_,rfl,?_⟩
  refine jD (fun c1=>?_) (fun c1=>?_)
  rotate_left
  ·refine iteF ?_
   exact stay (jnt_else hin hrin.1 (.inl (by omega)))
  refine ⟨_,rfl,c,_,_,_,rfl,rfl,hrt,rfl,_,rfl,l8,_,rfl,.inl hch,rfl,Z1 _,_,rfl,?_⟩
  show if (inV (V.int r.2.1) (ch.map V.int))=true then _ else _
  rw [Jd]
  refine zb (fun c2=>?_) (fun c2=>?_)
  ·refine iteT ?_
   have pg10:PlG K H10 (C 0) p R (prtP R gs q) dx fs wl g xs2:=pg9.buts s10 ntj (by simp [npj]) (by simp [njw]) (by simp [Ne.symm njg])
   refine ⟨_,rfl,p,_,_,rfl,pg10.ob,pg10.nm.joint_of,_,rfl,p,c,R,prtP R gs q,dx,fs,wl,g,xs2,r,rfl,pg10,hc9,by rw [yz]; exact hrin,(cm'.far r.1 r.2.1).mono (by omega),fun t et=>(cm'.jnt et).mono (by omega),fun v11 H11 s11 o11=>?_⟩
   have hj11:=s11 _ _ hj10
   have lkv:kv.length<=200:=by
    have z:=congrArg List.length ks10
    rw [List.length_map,List.length_map] at z
    have:=Z8 l6
    omega
   refine ⟨_,rfl,p,_,_,_,rfl,s11 _ _ pg10.ob,pj.fj,_,rfl,j,_,rfl,DPut.t (k:=keyP r) hj11 (s11 _ _ hc9) (Nat.lt_of_le_of_lt lkv (by decide)),?_⟩
   obtain ⟨H12,q12,s12,e12⟩:=newB (H:=H11) (p:=j) (.dT (putK kv (keyP r) v11))
   dsimp only
   rw [q12]
   clear q12
   have hikv:i < kv.length:=by
    have z:=congrArg List.length ks10
    rw [List.length_map,List.length_map] at z
    omega
   obtain ⟨⟨ky,wv⟩,hkv⟩:∃ e,kv[i]?=some e:=⟨_,List.getElem?_eq_getElem hikv⟩
   obtain ⟨r',hr'',ek⟩:=Y4 ks10 hkv
   rw [hr'] at hr''
   cases hr''
   replace ek:ky=keyP r:=ek
   subst ek
   have ep:=putK_at (v:=v11) (by rw [ks10]; exact nd) hkv
   have b12:Buts [j] H10 H12:=(Buts.of s11).trans (Buts.one s12 (by simp))
   have nt10:NoT [j] H10:=NoT.dct hj10 NoT.nil
   have nt11:NoT [j] H11:=NoT.dct hj11 NoT.nil
   refine ⟨_,_,rfl,s10.trans b12,e12,?_,?_⟩
   ·rw [ep,List.map_set,ks10]
    show ((prsP gs.length).map keyP).set i (keyP r)=_
    refine List.ext_getElem? fun n=>?_
    rw [List.getElem?_set]
    by_cases e:i=n
    ·subst e
     rw [if_pos rfl,List.getElem?_map,hr',if_pos (by rw [List.length_map]; omega)]
     rfl
    ·rw [if_neg e]
   ·rw [ep,List.map_set,<- mix_set hr']
    exact Al2.set (yT js10 b12 nt10) (o11.buts (Buts.one s12 (by simp)) nt11)
  ·refine ⟨_,rfl,c,_,_,_,rfl,rfl,hrt,rfl,_,rfl,l8,_,rfl,.inl hch,rfl,Z1 _,_,rfl,?_⟩
   show if (inV (V.int r.2.2) (ch.map V.int))=true then _ else _
   rw [Jd]
   refine zb (fun c3=>?_) (fun c3=>?_)
   ·skip
    have pg10:PlG K H10 (C 0) p R (prtP R gs q) dx fs wl g xs2:=pg9.buts s10 ntj (by simp [npj]) (by simp [njw]) (by simp [Ne.symm njg])
    refine ⟨_,rfl,p,_,_,rfl,pg10.ob,pg10.nm.joint_of,_,rfl,p,c,R,prtP R gs q,dx,fs,wl,g,xs2,r,rfl,pg10,hc9,by rw [yz]; exact hrin,(cm'.far r.1 r.2.1).mono (by omega),fun t et=>(cm'.jnt et).mono (by omega),fun v11 H11 s11 o11=>?_⟩
    have hj11:=s11 _ _ hj10
    have lkv:kv.length<=200:=by
     have z:=congrArg List.length ks10
     rw [List.length_map,List.length_map] at z
     have:=Z8 l6
     omega
    refine ⟨_,rfl,p,_,_,_,rfl,s11 _ _ pg10.ob,pj.fj,_,rfl,j,_,rfl,DPut.t (k:=keyP r) hj11 (s11 _ _ hc9) (Nat.lt_of_le_of_lt lkv (by decide)),?_⟩
    obtain ⟨H12,q12,s12,e12⟩:=newB (H:=H11) (p:=j) (.dT (putK kv (keyP r) v11))
    dsimp only
    rw [q12]
    clear q12
    have hikv:i < kv.length:=by
     have z:=congrArg List.length ks10
     rw [List.length_map,List.length_map] at z
     omega
    obtain ⟨⟨ky,wv⟩,hkv⟩:∃ e,kv[i]?=some e:=⟨_,List.getElem?_eq_getElem hikv⟩
    obtain ⟨r',hr'',ek⟩:=Y4 ks10 hkv
    rw [hr'] at hr''
    cases hr''
    replace ek:ky=keyP r:=ek
    subst ek
    have ep:=putK_at (v:=v11) (by rw [ks10]; exact nd) hkv
    have b12:Buts [j] H10 H12:=(Buts.of s11).trans (Buts.one s12 (by simp))
    have nt10:NoT [j] H10:=NoT.dct hj10 NoT.nil
    have nt11:NoT [j] H11:=NoT.dct hj11 NoT.nil
    refine ⟨_,_,rfl,s10.trans b12,e12,?_,?_⟩
    ·rw [ep,List.map_set,ks10]
     show ((prsP gs.length).map keyP).set i (keyP r)=_
     refine List.ext_getElem? fun n=>?_
     rw [List.getElem?_set]
     by_cases e:i=n
     ·subst e
      rw [if_pos rfl,List.getElem?_map,hr',if_pos (by rw [List.length_map]; omega)]
      rfl
     ·rw [if_neg e]
    ·rw [ep,List.map_set,<- mix_set hr']
     exact Al2.set (yT js10 b12 nt10) (o11.buts (Buts.one s12 (by simp)) nt11)
   ·exact stay (jnt_else hin hrin.1 (.inr ⟨fun z=>c2 ((mch _).mpr z),fun z=>c3 ((mch _).mpr z)⟩))
 ·rintro σ1 H10 ⟨u8,kv,rfl,s10,hj10,ks10,js10⟩
  rw [hzd,mix_all] at js10
  have pgE:PlG K H10 (C 0) p R (prtP R gs q) dx fs wl g xs2:=pg9.buts s10 ntj (by simp [npj]) (by simp [njw]) (by simp [Ne.symm njg])
  refine k xs2 kv H10 (fun a u na ha=>s10 _ _ ?_ (b09 _ _ ?_ ha)) pgE ⟨pj.fj,.inl hj10,by rw [yz]; exact ks10,by rw [yz]; exact js10⟩ hj10
  ·simp only [List.mem_cons,List.not_mem_nil,or_false,not_or] at na ⊢
   exact na.2
  ·simp only [List.mem_cons,List.not_mem_nil,or_false,not_or] at na ⊢
   exact na.1
def spP_go_on (K:PySem.W.Frag) (C:Addr):Sp:=fun vs H Q _=>∃ (p:Addr) (R:Rat × Rat) (gs:List Bq) (now:Rat) (n:Nat) (wl g j:Addr) (t:Rat) (B:Nat),vs=[.ref p]/\ZY K H C p R gs now n wl g j/\gs.length<=6/\WtB gs/\comP R gs now=some t/\CmP B R gs/\B+15 * (dueP R gs now).length<=1900/\∀ (H1:Hp),Buts [p,g,j] H H1->ZY K H1 C p R (onP R gs now) t (n+1) wl g j->(∀ dx fs,H1 p=some (.ins C dx fs)->∀ du,fs.lookup ("due" : Str)=some (.ref du)->∀ z o,H z=some o->du≠z\/z=p\/z=g\/z=j)->Q .non H1
theorem Zj:FnScope ["self","pair"] ["self"] (zD (zP (top 65) 16)):=⟨rfl,rfl,rfl,by decide+kernel,rfl,by decide+kernel,by decide+kernel⟩
theorem ok_Plane_go_on (D:DfM K (C 0) "go_on" "Plane.go_on" (zP (top 65) 16) ["self"]) (T:Tx K mg C) (F_Plane_part:FnM P w K mg base 6 (C 0) "part" ["self","pair"] (spP_part K (C 0))) (F_Plane_look_ahead:FnM P w K mg base 6 (C 0) "look_ahead" ["self"] (jc K (C 0))):FnM P w K mg base 7 (C 0) "go_on" ["self"] (spP_go_on K (C 0)):=by
 refine D.ok0 Zj (fun vs H Q E h=>?_) (fun f cdv A outer s H vs Q E hr h=>?_)
 ·obtain ⟨p,R,gs,now,n,wl,g,j,t,B,rfl,_⟩:=h
  rfl
 obtain ⟨p,R,gs,now,n,wl,g,j,t,B,rfl,⟨dx,nw,co,du,xs,kvs,ds,pg,pj,hj,njw,gn,dn,oc,hd,al,ndg⟩,l6,hw,et,cm,hB,k⟩:=h
 refine ⟨_,(zE (jR T.cl_Plane T.n_Plane_now (pv 0) (zT T.cl_Plane T.n_Plane_coming (pv 0)))
   (zE (ps_fldadd T.cl_Plane T.n_Plane_gone_through in_add (pv 0) zC)
   (zE (yF PassesOwn.never rfl (yU (zT T.cl_Plane T.n_Plane_due (pv 0))) (za (i:=1) Zj.nd rfl (Or.inl rfl)) (zF (yJ (yb T.cl_Plane F_Plane_part (by decide) hr zG (pv 0) (zA (pv 1) zB)))))
   (zF (yJ (Zn T.cl_Plane F_Plane_look_ahead (by decide) hr zG (pv 0))))))),?_⟩
 have npg:p≠g:=zw pg.ob pg.hg (by intro z; cases z)
 have npj:p≠j:=zw pg.ob hj (by intro z; cases z)
 have njg:j≠g:=zw hj pg.hg (by intro z; cases z)
 have npd:p≠du:=zw pg.ob hd (by intro z; cases z)
 have njd:j≠du:=zw hj hd (by intro z; cases z)
 obtain ⟨wkv,hwl⟩:∃ kv,H wl=some (.dT kv):=by
  obtain ⟨_,_,_,_,e,_⟩:=pg.ws
  exact ⟨_,e⟩
 have nwg:wl≠g:=zw hwl pg.hg (by intro z; cases z)
 have nwp:wl≠p:=zw hwl pg.ob (by intro z; cases z)
 obtain ⟨pt,rfl,gt,dt⟩:∃ pt:Addr,co=.ref pt/\FQ K H pt t/\FB 2000 t:=by
  rcases oc with ⟨e,_⟩|⟨q,pt,e,e',g',d'⟩
  ·rw [et] at e
   cases e
  ·rw [et] at e
   injection e with e
   subst e
   exact ⟨pt,e',g',d'⟩
 refine ⟨_,rfl,p,_,_,_,rfl,pg.ob,rfl,_,rfl,p,dx,_,rfl,pg.ob,by show (7:Nat) < 1000; decide,?_⟩
 obtain ⟨H2,q2,s2,e2⟩:=newB (H:=H) (p:=p) (.ins (C 0) dx (putF ("now" : Str) (V.ref pt) (plF wl g nw (n:Int) j (.ref pt) du)))
 dsimp only
 rw [q2]
 clear q2
 replace e2:H2 p=some (.ins (C 0) dx (plF wl g pt (n:Int) j (.ref pt) du)):=e2
 refine ⟨_,rfl,p,dx,_,_,rfl,e2,rfl,1,rfl,rfl,by show (7:Nat) < 1000; decide,?_⟩
 obtain ⟨H3,q3,s3,e3⟩:=newB (H:=H2) (p:=p) (.ins (C 0) dx (putF ("gone_through" : Str) (V.int ((n:Int)+1)) (plF wl g pt (n:Int) j (.ref pt) du)))
 dsimp only
 rw [q3]
 clear q3
 replace e3:H3 p=some (.ins (C 0) dx (plF wl g pt ((n+1:Nat):Int) j (.ref pt) du)):=e3
 have b3:But p H H3:=s2.trans s3
 have bs3:Buts [p] H H3:=Buts.one b3 (by simp)
 have nt:NoT [p] H:=NoT.ins pg.ob NoT.nil
 have pg3:PlG K H3 (C 0) p R gs dx (plF wl g pt ((n+1:Nat):Int) j (.ref pt) du) wl g xs:=⟨e3,rfl,rfl,pg.ws.buts bs3 nt (by simp [nwp]),b3 _ _ (Ne.symm npg) pg.hg,yw pg.al bs3 nt,plF_nm⟩
 have hj3:=b3 _ _ (Ne.symm npj) hj
 have pj3:PlJ K H3 R gs (plF wl g pt ((n+1:Nat):Int) j (.ref pt) du) j kvs:=⟨rfl,.inl hj3,pj.ks,yT pj.js bs3 nt⟩
 have hd3:=b3 _ _ (Ne.symm npd) hd
 have al3:=y3 al bs3 nt
 have gt3:=bs3.tup nt gt
 have nt3:NoT [g,j] H3:=NoT.lst pg3.hg (NoT.dct hj3 NoT.nil)
 have hzd:=Al2.len al
 refine ⟨_,rfl,p,_,_,_,rfl,e3,rfl,du,rfl,⟨_,SqL.of hd3⟩,j1 (K:=K) (a:=du) (xs:=ds) (fun m σ' H'=>∃ (u1:Option V) (xs':List V) (kvs':List (List Key × V)),σ'=[some (.ref p),u1]/\Buts [g,j] H3 H'/\PlG K H' (C 0) p R (((dueP R gs now).take m).foldl (prtP R) gs) dx (plF wl g pt ((n+1:Nat):Int) j (.ref pt) du) wl g xs'/\PlJ K H' R (((dueP R gs now).take m).foldl (prtP R) gs) (plF wl g pt ((n+1:Nat):Int) j (.ref pt) du) j kvs'/\H' j=some (.dT kvs')) ⟨_,xs,kvs,rfl,Buts.refl,pg3,pj3,hj3⟩ (by rintro _ _ _ _ ⟨_,_,_,_,g5,_⟩; exact SqL.of (g5 _ _ (by simp [ndg,Ne.symm njd]) hd3)) ?_ ?_⟩
 ·rintro m x σ' H4 hx ⟨u1,xs',kvs',rfl,s4,pg4,pj4,hj4⟩
  have hm:m < ds.length:=(List.getElem?_eq_some_iff.mp hx).1
  obtain ⟨q,hq,b,rfl,hb⟩:=Al2.get (y3 al3 s4 nt3) hx
  have hin:=ju q (List.mem_of_getElem? hq)
  have hlt:∀ r∈(dueP R gs now).take m,InP gs.length r:=fun r hr=>ju r (List.mem_of_mem_take hr)
  obtain ⟨cm4,hw4⟩:=Yz ((dueP R gs now).take m) cm hw hlt
  have ltk:((dueP R gs now).take m).length<=(dueP R gs now).length:=by rw [List.length_take]; omega
  have lgs:(((dueP R gs now).take m).foldl (prtP R) gs).length=gs.length:=Z7 _ _
  refine ⟨_,rfl,p,_,_,rfl,pg4.ob,rfl,_,rfl,p,b,R,_,dx,_,wl,g,xs',j,kvs',q,B+15 * ((dueP R gs now).take m).length,rfl,pg4,pj4,hj4,njw,hb,by rw [lgs]; exact hin,by rw [lgs]; exact l6,hw4,cm4,by omega,fun xs5 kvs5 H5 s5 pg5 pj5 hj5=>?_⟩
  have ef:((dueP R gs now).take (m+1)).foldl (prtP R) gs=prtP R (((dueP R gs now).take m).foldl (prtP R) gs) q:=by
   rw [zY hq,List.foldl_append]
   rfl
  rw [<- ef] at pg5 pj5
  exact ⟨_,xs5,kvs5,rfl,s4.trans s5,pg5,pj5,hj5⟩
 ·rintro σ' H4 ⟨u1,xs',kvs',rfl,s4,pg4,pj4,hj4⟩
  rw [hzd,List.take_length] at pg4 pj4
  have lgs:(onP R gs now).length=gs.length:=Z7 _ _
  refine ⟨_,rfl,p,_,_,rfl,pg4.ob,rfl,p,R,onP R gs now,dx,_,wl,g,xs',j,kvs',pt,t,rfl,pg4,pj4,hj4,njw,rfl,s4.tup nt3 gt3,dt,by show (7:Nat) < 900; decide,by rw [lgs]; exact l6,fun co5 du5 ds5 H5 s5 n5 e5 oc5 hd5 al5=>?_⟩
  replace e5:H5 p=some (.ins (C 0) dx (plF wl g pt ((n+1:Nat):Int) j co5 du5)):=e5
  have bs5:Buts [p] H4 H5:=Buts.one s5 (by simp)
  have nt4:NoT [p] H4:=NoT.ins pg4.ob NoT.nil
  have hj5:=s5 _ _ (Ne.symm npj) hj4
  refine k H5 (fun a o na ha=>?_) ⟨dx,pt,co5,du5,xs',kvs',ds5,⟨e5,rfl,rfl,pg4.ws.buts bs5 nt4 (by simp [nwp]),s5 _ _ (Ne.symm npg) pg4.hg,yw pg4.al bs5 nt4,plF_nm⟩,⟨rfl,.inl hj5,pj4.ks,yT pj4.js bs5 nt4⟩,hj5,njw,bs5.tup nt4 (s4.tup nt3 gt3),dt,oc5,hd5,al5,fun z=>by rw [z,pg4.hg] at n5; cases n5⟩ ?_
  ·simp only [List.mem_cons,List.not_mem_nil,or_false,not_or] at na
   exact s5 _ _ na.1 (s4 _ _ (by simp [na.2.1,na.2.2]) (b3 _ _ na.1 ha))
  ·intro dx' fs' hp' du' hdu' z o hz
   rw [e5] at hp'
   cases hp'
   cases (show some (V.ref du5)=some (.ref du') from hdu')
   by_cases y:z=p\/z=g\/z=j
   ·exact .inr y
   ·simp only [not_or] at y
    refine .inl fun x=>?_
    have w:=s4 _ _ (by simp [y.2.1,y.2.2]) (b3 _ _ y.1 hz)
    rw [<- x,n5] at w
    cases w
def JD (K:PySem.W.Frag):Sp:=fun vs H Q _=>∃ (r x y:Addr) (R:Rat × Rat),vs=[.ref r]/\SqT K H r [.ref x,.ref y]/\FQ K H x R.1/\FQ K H y R.2/\FB 1990 R.1/\FB 1990 R.2/\∀ (wl:Addr) (H1:Hp),Same H H1->Wls K H1 wl R->Q (.ref wl) H1
theorem Zo:FnScope ["room","wide","high"] ["room"] (zD (top 62)):=⟨rfl,rfl,rfl,by decide+kernel,rfl,by decide+kernel,by decide+kernel⟩
theorem ok_walls_of (D:Df K mg "walls_of" (top 62) ["room"]) (T:Tx K mg C):Fn P w K mg base 1 "walls_of" ["room"] (JD K):=by
 refine D.ok0 Zo (fun vs H Q E h=>?_) (fun f cdv A outer s H vs Q E hr h=>?_)
 ·obtain ⟨r,x,y,R,rfl,_⟩:=h
  rfl
 obtain ⟨r,x,y,R,rfl,hr0,hx,hy,fx,fy,q⟩:=h
 refine ⟨_,(zE (zN (i:=1) Zo.nd rfl (Or.inl rfl) (zH ix_tup (pv 0) zC (fun _ _=>rfl)))
   (zE (zN (i:=2) Zo.nd rfl (Or.inl rfl) (zH ix_tup (pv 0) zC (fun _ _=>rfl)))
   (zF (zM (pe_dictT (YC (u100 hr)) (.cons (zR (zA (zW (by rfl) T.k_ACROSS) (zA (zW (by rfl) T.k_NEAR_WALL) zB))) (zR (zA (zR (zA (YS ZO zC) (zA zC zB))) (zA (zl (K:=K) rfl (by rfl) T.k_NOUGHT) (zA (zR (zA zC (zA zC zB))) (zA (pv 2) (zA (zl (K:=K) rfl (by rfl) T.k_NOUGHT) (zA (zl (K:=K) rfl (by rfl) T.k_NOUGHT) (zA y9 zB)))))))) (.cons (zR (zA (zW (by rfl) T.k_ACROSS) (zA (zW (by rfl) T.k_FAR_WALL) zB))) (zR (zA (pv 1) (zA (zl (K:=K) rfl (by rfl) T.k_NOUGHT) (zA (zR (zA zC (zA zC zB))) (zA (pv 2) (zA (zl (K:=K) rfl (by rfl) T.k_NOUGHT) (zA (zl (K:=K) rfl (by rfl) T.k_NOUGHT) (zA y9 zB)))))))) (.cons (zR (zA (zW (by rfl) T.k_ALONG) (zA (zW (by rfl) T.k_NEAR_WALL) zB))) (zR (zA (zl (K:=K) rfl (by rfl) T.k_NOUGHT) (zA (zR (zA (YS ZO zC) (zA zC zB))) (zA (pv 1) (zA (zR (zA zC (zA zC zB))) (zA (zl (K:=K) rfl (by rfl) T.k_NOUGHT) (zA (zl (K:=K) rfl (by rfl) T.k_NOUGHT) (zA y9 zB)))))))) (.cons (zR (zA (zW (by rfl) T.k_ALONG) (zA (zW (by rfl) T.k_FAR_WALL) zB))) (zR (zA (zl (K:=K) rfl (by rfl) T.k_NOUGHT) (zA (pv 2) (zA (pv 1) (zA (zR (zA zC (zA zC zB))) (zA (zl (K:=K) rfl (by rfl) T.k_NOUGHT) (zA (zl (K:=K) rfl (by rfl) T.k_NOUGHT) (zA y9 zB)))))))) .nil)))) (by simp) (by decide)))))),?_⟩
 refine ⟨_,rfl,r,_,_,_,rfl,rfl,hr0,rfl,?_⟩
 refine ⟨_,rfl,r,_,_,_,rfl,rfl,hr0,rfl,?_⟩
 intro p0 n0
 obtain ⟨H0,q0,s0,e0⟩:=newO n0 (.dT [])
 rw [q0]
 clear q0
 refine ⟨by show 2<=sizeLine; decide,?_⟩
 intro p1 n1
 obtain ⟨H1,q1,s1,e1⟩:=newO n1 (.tup [.int 0,.int (-1)])
 rw [q1]
 clear q1
 refine ⟨_,rfl,by show 2<=sizeLine; decide,?_⟩
 intro p2 n2
 obtain ⟨H2,q2,s2,e2⟩:=newO n2 (.tup [.int (-1),.int 1])
 rw [q2]
 clear q2
 refine fun N3_1 g3_1=>?_
 refine ⟨by show 2<=sizeLine; decide,?_⟩
 intro p3 n3
 obtain ⟨H3,q3,s3,e3⟩:=newO n3 (.tup [.int 1,.int 1])
 rw [q3]
 clear q3
 refine ⟨_,rfl,?_⟩
 refine fun N4_4 g4_4=>?_
 refine fun N4_5 g4_5=>?_
 refine ⟨by show 7<=sizeLine; decide,?_⟩
 intro p4 n4
 obtain ⟨H4,q4,s4,e4⟩:=newO n4 (.tup [.ref p2,.ref N3_1,.ref p3,.ref y,.ref N4_4,.ref N4_5,.non])
 rw [q4]
 clear q4
 refine ⟨by show 2<=sizeLine; decide,?_⟩
 intro p5 n5
 obtain ⟨H5,q5,s5,e5⟩:=newO n5 (.tup [.int 0,.int (-2)])
 rw [q5]
 clear q5
 refine ⟨_,rfl,?_⟩
 refine fun N6_1 g6_1=>?_
 refine ⟨by show 2<=sizeLine; decide,?_⟩
 intro p6 n6
 obtain ⟨H6,q6,s6,e6⟩:=newO n6 (.tup [.int 1,.int 1])
 rw [q6]
 clear q6
 refine ⟨_,rfl,?_⟩
 refine fun N7_4 g7_4=>?_
 refine fun N7_5 g7_5=>?_
 refine ⟨by show 7<=sizeLine; decide,?_⟩
 intro p7 n7
 obtain ⟨H7,q7,s7,e7⟩:=newO n7 (.tup [.ref x,.ref N6_1,.ref p6,.ref y,.ref N7_4,.ref N7_5,.non])
 rw [q7]
 clear q7
 refine ⟨by show 2<=sizeLine; decide,?_⟩
 intro p8 n8
 obtain ⟨H8,q8,s8,e8⟩:=newO n8 (.tup [.int 1,.int (-1)])
 rw [q8]
 clear q8
 refine fun N9_0 g9_0=>?_
 refine ⟨_,rfl,by show 2<=sizeLine; decide,?_⟩
 intro p9 n9
 obtain ⟨H9,q9,s9,e9⟩:=newO n9 (.tup [.int (-1),.int 1])
 rw [q9]
 clear q9
 refine ⟨_,rfl,?_⟩
 refine ⟨by show 2<=sizeLine; decide,?_⟩
 intro p10 n10
 obtain ⟨H10,q10,s10,e10⟩:=newO n10 (.tup [.int 1,.int 1])
 rw [q10]
 clear q10
 refine fun N11_4 g11_4=>?_
 refine fun N11_5 g11_5=>?_
 refine ⟨by show 7<=sizeLine; decide,?_⟩
 intro p11 n11
 obtain ⟨H11,q11,s11,e11⟩:=newO n11 (.tup [.ref N9_0,.ref p9,.ref x,.ref p10,.ref N11_4,.ref N11_5,.non])
 rw [q11]
 clear q11
 refine ⟨by show 2<=sizeLine; decide,?_⟩
 intro p12 n12
 obtain ⟨H12,q12,s12,e12⟩:=newO n12 (.tup [.int 1,.int (-2)])
 rw [q12]
 clear q12
 refine fun N13_0 g13_0=>?_
 refine ⟨_,rfl,?_⟩
 refine ⟨_,rfl,?_⟩
 refine ⟨by show 2<=sizeLine; decide,?_⟩
 intro p13 n13
 obtain ⟨H13,q13,s13,e13⟩:=newO n13 (.tup [.int 1,.int 1])
 rw [q13]
 clear q13
 refine fun N14_4 g14_4=>?_
 refine fun N14_5 g14_5=>?_
 refine ⟨by show 7<=sizeLine; decide,?_⟩
 intro p14 n14
 obtain ⟨H14,q14,s14,e14⟩:=newO n14 (.tup [.ref N13_0,.ref y,.ref x,.ref p13,.ref N14_4,.ref N14_5,.non])
 rw [q14]
 clear q14
 have t14:Same H14 H14:=fun _ _ h=>h
 have t13:=s14.trans t14
 have t12:=s13.trans t13
 have t11:=s12.trans t12
 have t10:=s11.trans t11
 have t9:=s10.trans t10
 have t8:=s9.trans t9
 have t7:=s8.trans t8
 have t6:=s7.trans t7
 have t5:=s6.trans t6
 have t4:=s5.trans t5
 have t3:=s4.trans t4
 have t2:=s3.trans t3
 have t1:=s2.trans t2
 have t0:=s1.trans t1
 have tx:=s0.trans t0
 obtain ⟨sz,wz⟩:=wls_new (K:=K) (R:=R) fx fy n0 tx (t0 _ _ e0) ⟨p4,_,_,_,_,_,_,rfl,SqT.of (t4 _ _ e4),fq_mone (SqT.of (t2 _ _ e2)),z9 (g3_1 _),fq_one (SqT.of (t3 _ _ e3)),Kw.Same.tup tx hy,z9 (g4_4 _),z9 (g4_5 _)⟩ ⟨p7,_,_,_,_,_,_,rfl,SqT.of (t7 _ _ e7),Kw.Same.tup tx hx,z9 (g6_1 _),fq_one (SqT.of (t6 _ _ e6)),Kw.Same.tup tx hy,z9 (g7_4 _),z9 (g7_5 _)⟩ ⟨p11,_,_,_,_,_,_,rfl,SqT.of (t11 _ _ e11),z9 (g9_0 _),fq_mone (SqT.of (t9 _ _ e9)),Kw.Same.tup tx hx,fq_one (SqT.of (t10 _ _ e10)),z9 (g11_4 _),z9 (g11_5 _)⟩ ⟨p14,_,_,_,_,_,_,rfl,SqT.of (t14 _ _ e14),z9 (g13_0 _),Kw.Same.tup tx hy,Kw.Same.tup tx hx,fq_one (SqT.of (t13 _ _ e13)),z9 (g14_4 _),z9 (g14_5 _)⟩
 exact ⟨t0 _ _ e0,[(keyW 0 (-1),.ref p4),(keyW 0 (-2),.ref p7),(keyW 1 (-1),.ref p11),(keyW 1 (-2),.ref p14)],⟨⟨p1,rfl,t1 _ _ e1⟩,rfl,⟨p5,rfl,t5 _ _ e5⟩,rfl,⟨p8,rfl,t8 _ _ e8⟩,rfl,⟨p12,rfl,t12 _ _ e12⟩,rfl,trivial⟩,by show 4<=100; decide,q p0 _ sz wz⟩
def Yx (K:PySem.W.Frag):Sp:=fun vs H Q _=>∃ (n:Nat),vs=[.int (n:Int)]/\n<=6/\∀ (a:Addr) (xs:List V) (H1:Hp),Same H H1->H a=none->H1 a=some (.lst xs)->Al2 (PrH H1) xs (prsP n)->Q (.ref a) H1
theorem yt:FnScope ["count","pairs","way","one","other"] ["count"] (zD (top 64)):=⟨rfl,rfl,rfl,by decide+kernel,rfl,by decide+kernel,by decide+kernel⟩
theorem ok_all_pairs (D:Df K mg "all_pairs" (top 64) ["count"]) (T:Tx K mg C):Fn P w K mg base 1 "all_pairs" ["count"] (Yx K):=by
 refine D.ok0 yt (fun vs H Q E h=>?_) (fun f cdv A outer s H vs Q E hr h=>?_)
 ·obtain ⟨n,rfl,_⟩:=h
  rfl
 obtain ⟨n,rfl,hn,q⟩:=h
 refine ⟨_,(zE (zN (i:=1) yt.nd rfl (Or.inl rfl) (zv zB))
   (zE (yF PassesOwn.never rfl (pi_tup (zR (zA (zW (by rfl) T.k_ACROSS) (zA (zW (by rfl) T.k_ALONG) zB)))) (za (i:=2) yt.nd rfl (Or.inl rfl)) (zF (yF PassesOwn.never rfl (pi_range2 (by rfl) T.b_range (zA (zW (by rfl) T.k_NEAR_WALL) (zA (pv 0) zB))) (za (i:=3) yt.nd rfl (Or.inl rfl)) (zF (yF PassesOwn.never rfl (yU (zO op_cat (zv (zA (zW (by rfl) T.k_FAR_WALL) zB)) (pe_listRange rfl (by rfl) T.b_list (by rfl) T.b_range (zA (pv 0) zB)))) (za (i:=4) yt.nd rfl (Or.inl rfl)) (zF (zh (ZW (zQ op_ne (pv 3) (pv 4) (zS _)) (je (jM (zQ YU (pv 3) zC (zS _)) (ym (zQ YU (pv 4) zC (zS _)))).pt)).pt (zF (yJ (YE PySem.F.plainAttrs_list PySem.F.slot_list_append PySem.F.type_list_append yn (pv 1) (zA (zR (zA (pv 2) (zA (pv 3) (zA (pv 4) zB)))) zB)))) zU)))))))
   (zF (zM (pv 1))))),?_⟩
 refine ⟨by show 0<=sizeLine; decide,?_⟩
 intro p0 n0
 obtain ⟨H0,q0,s0,e0⟩:=newO n0 (.lst [])
 rw [q0]
 clear q0
 refine ⟨by show 2<=sizeLine; decide,?_⟩
 intro p1 n1
 obtain ⟨H1,q1,s1,e1⟩:=newO n1 (.tup [.int 0,.int 1])
 rw [q1]
 clear q1
 have e01:=s1 _ _ e0
 have st:SqT K H1 p1 [.int 0,.int 1]:=SqT.of e1
 have nt1:NoT [p0] H1:=NoT.lst e01 NoT.nil
 refine ⟨p1,rfl,⟨_,st⟩,for_tup (K:=K) (xs:=[.int 0,.int 1]) (fun d σ' H'=>∃ (u2 u3 u4:Option V) (xs:List V) (ps:List Pr),σ'=[some (.int (n:Int)),some (.ref p0),u2,u3,u4]/\But p0 H1 H'/\H' p0=some (.lst xs)/\Al2 (PrH H') xs ps/\ps=(if d=0 then [] else if d=1 then prsD n 0 else prsP n)/\ps.length<=60 * d) ⟨_,_,_,[],[],rfl,But.refl _,e01,trivial,rfl,Nat.zero_le _⟩ ?_ ?_ ?_⟩
 ·rintro d σ' H2 _ ⟨u2,u3,u4,xs,ps,rfl,b2,hp2,al2,eps,lps⟩
  exact (Buts.one b2 (by simp)).tup nt1 st
 ·rintro d x σ' H2 hx ⟨u2,u3,u4,xs,ps,rfl,b2,hp2,al2,eps,lps⟩
  obtain ⟨hd,rfl⟩:d<=1/\x=.int (d:Int):=by
   match d,hx with
   |0,hx=>cases hx; exact ⟨by decide,rfl⟩
   |1,hx=>cases hx; exact ⟨by decide,rfl⟩
   |d+2,hx=>cases hx
  have l60:ps.length<=60:=by omega
  refine ⟨_,rfl,_,_,rfl,⟨by decide,by decide,by omega,by omega⟩,yI (lo:=-1) (n:=((n:Int) - (-1)).toNat) (fun i σ' H'=>∃ (u3 u4:Option V) (xs:List V) (qs:List Pr),σ'=[some (.int (n:Int)),some (.ref p0),some (.int (d:Int)),u3,u4]/\But p0 H2 H'/\H' p0=some (.lst xs)/\Al2 (PrH H') xs qs/\qs=ps++((onesN n).take i).flatMap (prs1 n d)/\qs.length<=ps.length+8 * i) ⟨_,_,xs,ps,rfl,But.refl _,hp2,al2,by simp,by omega⟩ ?_ ?_⟩
  ·rintro i σ' H3 hi ⟨u3,u4,xs,qs,rfl,b3,hp3,al3,eqs,lqs⟩
   have hin:i<=n:=by omega
   refine ⟨by show 1<=sizeLine; decide,?_⟩
   intro p4 n4
   obtain ⟨H4,q4,s4,e4⟩:=newO n4 (.lst [.int (-2)])
   rw [q4]
   clear q4
   refine ⟨_,rfl,n,rfl,by omega,?_⟩
   intro p5 n5
   obtain ⟨H5,q5,s5,e5⟩:=newO n5 (.lst ((List.range n).map fun i:Nat=>V.int (i:Int)))
   rw [q5]
   clear q5
   refine ⟨p4,p5,_,_,rfl,rfl,s5 _ _ e4,e5,by rw [List.length_map,List.length_range,sizeLine_eq]; show 1+n<=_; omega,?_⟩
   intro p6 n6
   obtain ⟨H6,q6,s6,e6⟩:=newO n6 (.lst ([V.int (-2)]++(List.range n).map fun i:Nat=>V.int (i:Int)))
   rw [q6]
   clear q6
   rw [oth_vs] at e6
   have s36:=s4.trans (s5.trans s6)
   have hp6:=s36 _ _ hp3
   have n60:p6≠p0:=fun z=>by rw [z,(s4.trans s5) _ _ hp3] at n6; cases n6
   refine ⟨p6,rfl,⟨_,SqL.of e6⟩,j1 (K:=K) (xs:=(JT n).map V.int) (fun k σ' H'=>∃ (u4:Option V) (xs:List V) (rs:List Pr),σ'=[some (.int (n:Int)),some (.ref p0),some (.int (d:Int)),some (.int (-1+(i:Int))),u4]/\But p0 H6 H'/\H' p0=some (.lst xs)/\Al2 (PrH H') xs rs/\rs=qs++(((JT n).take k).filter (okP (-1+(i:Int)))).map (fun o=>(d,-1+(i:Int),o))/\rs.length<=qs.length+k) ⟨_,xs,qs,rfl,But.refl _,hp6,zy al3 s36,by simp,by omega⟩ ?_ ?_ ?_⟩
   ·rintro k σ' H' _ ⟨u4,xs,rs,rfl,b,hp,_⟩
    exact SqL.of (b _ _ n60 e6)
   ·rintro k x σ' H7 hx ⟨u4,xs,rs,rfl,b7,hp7,al7,ers,lrs⟩
    rw [List.getElem?_map] at hx
    obtain ⟨o,ho,rfl⟩:=Option.map_eq_some_iff.mp hx
    have hk:k < (JT n).length:=(List.getElem?_eq_some_iff.mp ho).1
    rw [oth_len] at hk
    refine ⟨_,rfl,_,rfl,rfl,_,rfl,?_⟩
    refine if_neI (fun c1=>?_) (fun c1=>?_)
    ·refine ⟨_,rfl,_,_,rfl,rfl,_,rfl,?_⟩
     refine zb (fun c2=>?_) (fun c2=>?_)
     ·refine iteT ?_
      refine ⟨_,rfl,.inl ⟨rfl,_,SqL.of hp7⟩,_,rfl,_,rfl,_,rfl,by show 3<=sizeLine; decide,?_⟩
      intro p8 n8
      obtain ⟨H8,q8,s8,e8⟩:=newO n8 (.tup [.int (d:Int),.int (-1+(i:Int)),.int o])
      rw [q8]
      clear q8
      have hp8:=s8 _ _ hp7
      refine ⟨p0,xs,_,rfl,rfl,hp8,by rw [Al2.len al7,sizeLine_eq]; omega,?_⟩
      obtain ⟨H9,q9,b9,e9⟩:=newB (H:=H8) (p:=p0) (.lst (xs++[.ref p8]))
      rw [q9]
      clear q9
      have nt8:NoT [p0] H8:=NoT.lst hp8 NoT.nil
      have bs9:Buts [p0] H8 H9:=Buts.one b9 (by simp)
      have n80:p8≠p0:=zw e8 hp8 (by intro z; cases z)
      refine ⟨_,_,rs++[(d,-1+(i:Int),o)],rfl,b7.trans ((But.of s8).trans b9),e9,Al2.snoc (y3 (zy al7 s8) bs9 nt8) ⟨p8,rfl,b9 _ _ n80 e8⟩,?_,by rw [List.length_append,List.length_singleton]; omega⟩
      rw [zY ho,List.filter_append,List.map_append,ers,List.append_assoc]
      rw [show [o].filter (okP (-1+(i:Int)))=[o] by simp [okP]; omega]
      rfl
     ·refine ⟨_,rfl,_,_,rfl,rfl,_,rfl,?_⟩
      refine zb (fun c3=>?_) (fun c3=>?_)
      ·refine ⟨_,rfl,.inl ⟨rfl,_,SqL.of hp7⟩,_,rfl,_,rfl,_,rfl,by show 3<=sizeLine; decide,?_⟩
       intro p8 n8
       obtain ⟨H8,q8,s8,e8⟩:=newO n8 (.tup [.int (d:Int),.int (-1+(i:Int)),.int o])
       rw [q8]
       clear q8
       have hp8:=s8 _ _ hp7
       refine ⟨p0,xs,_,rfl,rfl,hp8,by rw [Al2.len al7,sizeLine_eq]; omega,?_⟩
       obtain ⟨H9,q9,b9,e9⟩:=newB (H:=H8) (p:=p0) (.lst (xs++[.ref p8]))
       rw [q9]
       clear q9
       have nt8:NoT [p0] H8:=NoT.lst hp8 NoT.nil
       have bs9:Buts [p0] H8 H9:=Buts.one b9 (by simp)
       have n80:p8≠p0:=zw e8 hp8 (by intro z; cases z)
       refine ⟨_,_,rs++[(d,-1+(i:Int),o)],rfl,b7.trans ((But.of s8).trans b9),e9,Al2.snoc (y3 (zy al7 s8) bs9 nt8) ⟨p8,rfl,b9 _ _ n80 e8⟩,?_,by rw [List.length_append,List.length_singleton]; omega⟩
       rw [zY ho,List.filter_append,List.map_append,ers,List.append_assoc]
       rw [show [o].filter (okP (-1+(i:Int)))=[o] by simp [okP]; omega]
       rfl
      ·refine ⟨_,xs,rs,rfl,b7,hp7,al7,?_,by omega⟩
       rw [zY ho,List.filter_append,List.map_append,ers]
       rw [show [o].filter (okP (-1+(i:Int)))=[] by simp [okP]; omega]
       simp
    ·refine iteF ?_
     refine ⟨_,xs,rs,rfl,b7,hp7,al7,?_,by omega⟩
     rw [zY ho,List.filter_append,List.map_append,ers]
     rw [show [o].filter (okP (-1+(i:Int)))=[] by simp [okP]; omega]
     simp
   ·rintro σ' H7 ⟨u4,xs,rs,rfl,b7,hp7,al7,ers,lrs⟩
    rw [List.length_map,oth_len] at lrs
    rw [List.take_of_length_le (by rw [List.length_map]; exact Nat.le_refl _)] at ers
    refine ⟨_,_,xs,rs,rfl,b3.trans ((But.of s36).trans b7),hp7,al7,?_,by omega⟩
    rw [zY (ones_at hin),List.flatMap_append,ers,eqs,List.append_assoc]
    simp only [List.append_cancel_left_eq,List.flatMap_cons,List.flatMap_nil,List.append_nil]
    exact prs1_eq.symm
  ·rintro σ' H3 ⟨u3,u4,xs,qs,rfl,b3,hp3,al3,eqs,lqs⟩
   rw [show ((n:Int) - (-1)).toNat=n+1 by omega] at eqs lqs
   rw [List.take_of_length_le (by rw [ones_len]; exact Nat.le_refl _),<- prsD_eq] at eqs
   refine ⟨_,_,_,xs,qs,rfl,b2.trans b3,hp3,al3,?_,by omega⟩
   rw [eqs,eps]
   rcases d01 hd with rfl|rfl
   ·rfl
   ·rfl
 ·rintro σ' H2 ⟨u2,u3,u4,xs,ps,rfl,b2,hp2,al2,eps,lps⟩
  refine ⟨_,rfl,q p0 xs H2 (fun a o ha=>?_) n0 hp2 ((show ps=prsP n from eps)▸al2)⟩
  have na:a≠p0:=fun z=>by rw [z,n0] at ha; cases ha
  exact b2 _ _ na ((s0.trans s1) _ _ ha)
def spP_init (K:PySem.W.Frag) (C:Addr):Sp:=fun vs H Q _=>∃ (x dx r rx ry l:Addr) (R:Rat × Rat) (xs:List V) (gs:List Bq) (B:Nat),vs=[.ref x,.ref r,.ref l]/\H x=some (.ins C dx [])/\SqT K H r [.ref rx,.ref ry]/\FQ K H rx R.1/\FQ K H ry R.2/\FB 1990 R.1/\FB 1990 R.2/\H l=some (.lst xs)/\Al2 (BqH K 1990 H) xs gs/\gs.length<=6/\CmP B R gs/\B<=1900/\∀ (wl g j:Addr) (H1:Hp),But x H H1->H g=none->H j=none->ZY K H1 C x R gs 0 0 wl g j->Q .non H1
theorem jn:FnScope ["self","room","boxes","pair"] ["self","room","boxes"] (zD (zP (top 65) 0)):=⟨rfl,rfl,rfl,by decide+kernel,rfl,by decide+kernel,by decide+kernel⟩
theorem ok_Plane___init__ (D:DfM K (C 0) "__init__" "Plane.__init__" (zP (top 65) 0) ["self","room","boxes"]) (T:Tx K mg C) (F_walls_of:Fn P w K mg base 1 "walls_of" ["room"] (JD K)) (F_all_pairs:Fn P w K mg base 1 "all_pairs" ["count"] (Yx K)) (F_Plane_joint_of:FnM P w K mg base 5 (C 0) "joint_of" ["self","pair"] (ZV K (C 0))) (F_Plane_look_ahead:FnM P w K mg base 6 (C 0) "look_ahead" ["self"] (jc K (C 0))):FnM P w K mg base 7 (C 0) "__init__" ["self","room","boxes"] (spP_init K (C 0)):=by
 refine D.ok0 jn (fun vs H Q E h=>?_) (fun f cdv A outer s H vs Q E hr h=>?_)
 ·obtain ⟨x,dx,r,rx,ry,l,R,xs,gs,B,rfl,_⟩:=h
  rfl
 obtain ⟨x,dx,r,rx,ry,l,R,xs,gs,B,rfl,hx,hr0,grx,gry,fx,fy,hl,al,l6,cm,hB,k⟩:=h
 refine ⟨_,(zE (jR T.cl_Plane T.n_Plane_walls (pv 0) (zL F_walls_of (by decide) hr (by rfl) zG (zA (pv 1) zB)))
   (zE (jR T.cl_Plane T.n_Plane_goings (pv 0) (yW jP (by rfl) T.b_list PyProof.Rows.Boot.«list» (zA (pv 2) zB)))
   (zE (jR T.cl_Plane T.n_Plane_now (pv 0) (zl (K:=K) rfl (by rfl) T.k_NOUGHT))
   (zE (jR T.cl_Plane T.n_Plane_gone_through (pv 0) zC)
   (zE (jR T.cl_Plane T.n_Plane_joints (pv 0) pe_dnewT)
   (zE (yF PassesOwn.never rfl (yU (zL F_all_pairs (by decide) hr (by rfl) zG (zA (zV yG (by rfl) T.b_len PyProof.Rows.Boot.«len» (zA (pv 2) zB)) zB))) (za (i:=3) jn.nd rfl (Or.inl rfl)) (zF (ps_dput (YC (u100 hr)) (zT T.cl_Plane T.n_Plane_joints (pv 0)) (pv 3) (yb T.cl_Plane F_Plane_joint_of (by decide) hr zG (pv 0) (zA (pv 3) zB)) rfl)))
   (zF (yJ (Zn T.cl_Plane F_Plane_look_ahead (by decide) hr zG (pv 0)))))))))),?_⟩
 have hz:=Al2.len al
 refine ⟨_,rfl,r,rx,ry,R,rfl,hr0,grx,gry,fx,fy,fun wl H2 s2 ws2=>?_⟩
 refine ⟨_,rfl,x,dx,_,rfl,s2 _ _ hx,by show (0:Nat) < 1000; decide,?_⟩
 obtain ⟨H3,q3,s3,e3⟩:=newB (H:=H2) (p:=x) (.ins (C 0) dx (putF ("walls" : Str) (V.ref wl) []))
 dsimp only
 rw [q3]
 clear q3
 replace e3:H3 x=some (.ins (C 0) dx [("walls",.ref wl)]):=e3
 have hx2:=s2 _ _ hx
 have nlx:l≠x:=zw hl hx (by intro z; cases z)
 have hl3:=s3 _ _ nlx (s2 _ _ hl)
 refine ⟨_,rfl,l,xs,rfl,.inl (SqL.of hl3),?_⟩
 intro p4 n4
 obtain ⟨H4,q4,s4,e4⟩:=newO n4 (.lst xs)
 rw [q4]
 clear q4
 have px4:p4≠x:=Ne.symm (zI e3 n4)
 refine ⟨_,rfl,x,dx,_,rfl,s4 _ _ e3,by show (1:Nat) < 1000; decide,?_⟩
 obtain ⟨H5,q5,s5,e5⟩:=newB (H:=H4) (p:=x) (.ins (C 0) dx (putF ("goings" : Str) (V.ref p4) [("walls",.ref wl)]))
 dsimp only
 rw [q5]
 clear q5
 replace e5:H5 x=some (.ins (C 0) dx [("walls",.ref wl),("goings",.ref p4)]):=e5
 refine fun N hN=>?_
 refine ⟨_,rfl,x,dx,_,rfl,e5,by show (2:Nat) < 1000; decide,?_⟩
 obtain ⟨H6,q6,s6,e6⟩:=newB (H:=H5) (p:=x) (.ins (C 0) dx (putF ("now" : Str) (V.ref N) [("walls",.ref wl),("goings",.ref p4)]))
 dsimp only
 rw [q6]
 clear q6
 replace e6:H6 x=some (.ins (C 0) dx [("walls",.ref wl),("goings",.ref p4),("now",.ref N)]):=e6
 refine ⟨_,rfl,x,dx,_,rfl,e6,by show (3:Nat) < 1000; decide,?_⟩
 obtain ⟨H7,q7,s7,e7⟩:=newB (H:=H6) (p:=x) (.ins (C 0) dx (putF ("gone_through" : Str) (V.int 0) [("walls",.ref wl),("goings",.ref p4),("now",.ref N)]))
 dsimp only
 rw [q7]
 clear q7
 replace e7:H7 x=some (.ins (C 0) dx [("walls",.ref wl),("goings",.ref p4),("now",.ref N),("gone_through",.int 0)]):=e7
 intro p8 n8
 obtain ⟨H8,q8,s8,e8⟩:=newO n8 (.dT [])
 rw [q8]
 clear q8
 have px8:p8≠x:=Ne.symm (zI e7 n8)
 refine ⟨_,rfl,x,dx,_,rfl,s8 _ _ e7,by show (4:Nat) < 1000; decide,?_⟩
 obtain ⟨H9,q9,s9,e9⟩:=newB (H:=H8) (p:=x) (.ins (C 0) dx (putF ("joints" : Str) (V.ref p8) [("walls",.ref wl),("goings",.ref p4),("now",.ref N),("gone_through",.int 0)]))
 dsimp only
 rw [q9]
 clear q9
 replace e9:H9 x=some (.ins (C 0) dx [("walls",.ref wl),("goings",.ref p4),("now",.ref N),("gone_through",.int 0),("joints",.ref p8)]):=e9
 have b24:But x H2 H4:=s3.trans (But.of s4)
 have b47:But x H4 H7:=s5.trans (s6.trans s7)
 have b79:But x H7 H9:=(But.of s8).trans s9
 have b29:But x H2 H9:=b24.trans (b47.trans b79)
 have bs29:Buts [x] H2 H9:=Buts.one b29 (by simp)
 have nt2:NoT [x] H2:=NoT.ins hx2 NoT.nil
 obtain ⟨wkv,hwl⟩:∃ kv,H2 wl=some (.dT kv):=by
  obtain ⟨_,_,_,_,e,_⟩:=ws2
  exact ⟨_,e⟩
 have nwx:wl≠x:=zw hwl hx2 (by intro z; cases z)
 have hwl7:=(b24.trans b47) _ _ nwx hwl
 have nw8:wl≠p8:=zI hwl7 n8
 have hg7:=b47 _ _ px4 e4
 have n84:p4≠p8:=zI hg7 n8
 have hg9:=b79 _ _ px4 hg7
 have hj9:=s9 _ _ px8 e8
 have al9:=yw (zk al s2) bs29 nt2
 have hl9:=b29 _ _ nlx (s2 _ _ hl)
 have nm9:NoM [("walls",.ref wl),("goings",.ref p4),("now",.ref N),("gone_through",.int 0),("joints",.ref p8)]:=⟨rfl,rfl,rfl,rfl,rfl,rfl,rfl,rfl,rfl,rfl,rfl,rfl,rfl,rfl,rfl,rfl,rfl⟩
 have pg9:PlG K H9 (C 0) x R gs dx [("walls",.ref wl),("goings",.ref p4),("now",.ref N),("gone_through",.int 0),("joints",.ref p8)] wl p4 xs:=⟨e9,rfl,rfl,ws2.buts bs29 nt2 (by simp [nwx]),hg9,al9,nm9⟩
 refine ⟨_,rfl,_,_,rfl,.inl ⟨_,SqL.of hl9,rfl⟩,xs.length,rfl,by omega,fun pa ys H10 s10 n10 e10 al10=>?_⟩
 rw [hz] at al10
 have hzp:=Al2.len al10
 have lps:=Z8 l6
 have nd:=zAA l6
 have pg10:=pg9.same s10
 have hj10:=s10 _ _ hj9
 have nt10:NoT [p8] H10:=NoT.dct hj10 NoT.nil
 have nxa:x≠pa:=zI e9 n10
 have n8a:p8≠pa:=zI hj9 n10
 refine ⟨pa,rfl,⟨_,SqL.of e10⟩,j1 (K:=K) (a:=pa) (xs:=ys) (fun i σ' H'=>∃ (u3:Option V) (kv:List (List Key × V)),σ'=[some (.ref x),some (.ref r),some (.ref l),u3]/\But p8 H10 H'/\H' p8=some (.dT kv)/\kv.map (·.1)=((prsP gs.length).take i).map keyP/\Al2 (OptB K H') (kv.map (·.2)) (((prsP gs.length).take i).map (jntP R gs))) ⟨_,[],rfl,But.refl _,hj10,rfl,trivial⟩ (by rintro _ _ _ _ ⟨_,_,_,g5,_⟩; exact SqL.of (g5 _ _ (Ne.symm n8a) e10)) ?_ ?_⟩
 ·rintro i y σ' H11 hy ⟨u3,kv,rfl,b11,hj11,ks,js⟩
  have bs11:Buts [p8] H10 H11:=Buts.one b11 (by simp)
  have hi:i < ys.length:=(List.getElem?_eq_some_iff.mp hy).1
  obtain ⟨q,hq,c,rfl,hc⟩:=Al2.get (y3 al10 bs11 nt10) hy
  have hin:InP gs.length q:=yK.mp (List.mem_of_getElem? hq)
  have pg11:PlG K H11 (C 0) x R gs dx [("walls",.ref wl),("goings",.ref p4),("now",.ref N),("gone_through",.int 0),("joints",.ref p8)] wl p4 xs:=pg10.buts bs11 nt10 (by simp [Ne.symm px8]) (by simp [nw8]) (by simp [n84])
  refine ⟨_,rfl,x,_,_,rfl,pg11.ob,pg11.nm.joint_of,_,rfl,x,c,R,gs,dx,_,wl,p4,xs,q,rfl,pg11,hc,hin,(cm.far q.1 q.2.1).mono (by omega),fun t et=>(cm.jnt et).mono (by omega),fun v12 H12 s12 o12=>?_⟩
  have hj12:=s12 _ _ hj11
  have lkv:kv.length<=200:=by
   have z:=congrArg List.length ks
   rw [List.length_map,List.length_map,List.length_take] at z
   omega
  refine ⟨_,rfl,x,_,_,_,rfl,s12 _ _ pg11.ob,rfl,_,rfl,p8,_,rfl,DPut.t (k:=keyP q) hj12 (s12 _ _ hc) (Nat.lt_of_le_of_lt lkv (by decide)),?_⟩
  obtain ⟨H13,q13,s13,e13⟩:=newB (H:=H12) (p:=p8) (.dT (putK kv (keyP q) v12))
  dsimp only
  rw [q13]
  clear q13
  rw [putK_snoc nd ks hq] at e13
  have nt12:NoT [p8] H12:=NoT.dct hj12 NoT.nil
  have bs13:Buts [p8] H12 H13:=Buts.one s13 (by simp)
  refine ⟨_,_,rfl,b11.trans ((But.of s12).trans s13),e13,?_,?_⟩
  ·rw [List.map_append,ks,zY hq,List.map_append]
   rfl
  ·rw [List.map_append,zY hq,List.map_append]
   exact Al2.snoc (yT (optb_same js s12) bs13 nt12) (o12.buts bs13 nt12)
 ·rintro σ' H11 ⟨u3,kv,rfl,b11,hj11,ks,js⟩
  rw [hzp,List.take_length] at ks js
  have bs11:Buts [p8] H10 H11:=Buts.one b11 (by simp)
  have pg11:PlG K H11 (C 0) x R gs dx [("walls",.ref wl),("goings",.ref p4),("now",.ref N),("gone_through",.int 0),("joints",.ref p8)] wl p4 xs:=pg10.buts bs11 nt10 (by simp [Ne.symm px8]) (by simp [nw8]) (by simp [n84])
  have pj11:PlJ K H11 R gs [("walls",.ref wl),("goings",.ref p4),("now",.ref N),("gone_through",.int 0),("joints",.ref p8)] p8 kv:=⟨rfl,.inl hj11,ks,js⟩
  refine ⟨_,rfl,x,_,_,rfl,pg11.ob,rfl,x,R,gs,dx,_,wl,p4,xs,p8,kv,N,0,rfl,pg11,pj11,hj11,nw8,rfl,z9 (hN _),yB.mono (by decide),by show (5:Nat) < 900; decide,l6,fun co5 du5 ds5 H12 s12 n12 e12 oc12 hd12 al12=>?_⟩
  replace e12:H12 x=some (.ins (C 0) dx (plF wl p4 N ((0:Nat):Int) p8 co5 du5)):=e12
  have bs12:Buts [x] H11 H12:=Buts.one s12 (by simp)
  have nt11:NoT [x] H11:=NoT.ins pg11.ob NoT.nil
  have hj12:=s12 _ _ px8 hj11
  have n4:=jA s2 (JR s3 n4 px4)
  have n8:=jA s2 (JR (b24.trans b47) n8 px8)
  refine k wl p4 p8 H12 (fun a o na ha=>?_) n4 n8 ⟨dx,N,co5,du5,xs,kv,ds5,⟨e12,rfl,rfl,pg11.ws.buts bs12 nt11 (by simp [nwx]),s12 _ _ px4 pg11.hg,yw pg11.al bs12 nt11,plF_nm⟩,⟨rfl,.inl hj12,ks,yT js bs12 nt11⟩,hj12,nw8,z9 (hN _),yB.mono (by decide),oc12,hd12,al12,fun z=>by rw [z,pg11.hg] at n12; cases n12⟩
  have na8:a≠p8:=fun z=>by rw [z,n8] at ha; cases ha
  exact s12 _ _ na (b11 _ _ na8 (s10 _ _ (b29 _ _ na (s2 _ _ ha))))
def JJ (K:PySem.W.Frag) (C:Addr):Sp:=fun vs H Q _=>∃ (p:Addr) (R:Rat × Rat) (gs:List Bq) (now:Rat) (n:Nat) (wl g j:Addr) (m:Nat),vs=[.ref p,.int (m:Int)]/\ZY K H C p R gs now n wl g j/\gs.length<=6/\n<=m/\∀ (v:V) (H1:Hp),Same H H1->((v=.non/\n < m/\(∃ t,comP R gs now=some t)/\crwP R gs now=false)\/∃ wd:String,v=.str wd/\RunP R gs now (m - n) wd [] gs now)->Q v H1
theorem sc_end_word:FnScope ["course","most"] ["course","most"] (zD (top 54)):=⟨rfl,rfl,rfl,by decide+kernel,rfl,by decide+kernel,by decide+kernel⟩
theorem ok_end_word (D:Df K mg "end_word" (top 54) ["course","most"]) (T:Tx K mg C) (F_Plane_is_crowded:FnM P w K mg base 7 (C 0) "is_crowded" ["self"] (Zt K (C 0))):Fn P w K mg base 8 "end_word" ["course","most"] (JJ K (C 0)):=by
 refine D.ok0 sc_end_word (fun vs H Q E h=>?_) (fun f cdv A outer s H vs Q E hr h=>?_)
 ·obtain ⟨p,R,gs,now,n,wl,g,j,m,rfl,_⟩:=h
  rfl
 obtain ⟨p,R,gs,now,n,wl,g,j,m,rfl,cr,l6,nm,k⟩:=h
 refine ⟨_,(zE (zh (zQ Jr (zT T.cl_Plane T.n_Plane_coming (pv 0)) y9 (zS _)) (zF (zM ZH)) zU)
   (zE (zh (zQ ZB (zT T.cl_Plane T.n_Plane_gone_through (pv 0)) (pv 1) (zS _)) (zF (zM ZH)) zU)
   (zE (zh (zn (Zn T.cl_Plane F_Plane_is_crowded (by decide) hr zG (pv 0)) (fun _=>rfl)) (zF (zM ZH)) zU)
   (zF (zM y9))))),?_⟩
 obtain ⟨dx,nw,co,du,xs,kvs,ds,pg,pj,hj,njw,gn,dn,oc,hd,al,ndg⟩:=id cr
 refine ⟨_,rfl,p,_,_,_,rfl,pg.ob,rfl,rfl,_,rfl,?_⟩
 refine zb (fun c=>?_) (fun c=>?_)
 ·exact k _ H (Same.refl _) (.inr ⟨"still",rfl,.still (oc.non.mp c)⟩)
 obtain ⟨t,pc,et,rfl,gt,dt⟩:∃ (t:Rat) (pc:Addr),comP R gs now=some t/\co=.ref pc/\FQ K H pc t/\FB 2000 t:=by
  rcases oc with ⟨_,e⟩|⟨t,pc,e,e',g',d'⟩
  ·exact absurd e c
  ·exact ⟨t,pc,e,e',g',d'⟩
 refine ⟨_,rfl,p,_,_,_,rfl,pg.ob,rfl,_,rfl,rfl,_,rfl,?_⟩
 refine jD (fun c1=>?_) (fun c1=>?_)
 ·have e:m - n=0:=by omega
  refine k _ H (Same.refl _) (.inr ⟨"more",rfl,?_⟩)
  rw [e]
  exact .more et
 obtain ⟨d,ed⟩:∃ d,m - n=d+1:=⟨m - n - 1,by omega⟩
 refine ⟨_,rfl,p,_,_,rfl,pg.ob,rfl,p,R,gs,dx,_,wl,g,xs,j,kvs,du,ds,dueP R gs now,now,t,pc,rfl,pg,pj,hj,njw,rfl,hd,al,due_few l6,l6,rfl,et,rfl,gt,dt,fun H1 s1=>⟨_,rfl,?_⟩⟩
 cases b:crwP R gs now with
 |true=>
  refine iteT ?_
  refine k _ H1 s1 (.inr ⟨"crowd",rfl,?_⟩)
  rw [ed]
  exact .crowd et b
 |false=>
  refine iteF ?_
  exact k _ H1 s1 (.inl ⟨rfl,by omega,⟨t,et⟩,b⟩)
def ToldP (K:PySem.W.Frag) (H:Hp) (r:Addr) (wd:String) (ms:List (Rat × Pr)) (es:List Bq) (last:Rat):Prop:=∃ (rr rb rn:Addr) (zs ws:List V),SqT K H r [.str wd,.ref rr,.ref rb,.ref rn]/\H rr=some (.lst zs)/\Al2 (MtP K H) zs ms/\H rb=some (.lst ws)/\Al2 (BqH K 5990 H) ws (es.map (atB last))/\FQ K H rn last/\FB 2000 last
theorem plnat_but {K:PySem.W.Frag} {H H':Hp} {C p:Addr} {R:Rat × Rat} {gs:List Bq} {now:Rat} {n:Nat} {wl g j z:Addr} (h:ZY K H C p R gs now n wl g j) (s:But z H H') (nt:NoT [z] H) (f:∀ a,a=p\/a=wl\/a=g\/a=j->a≠z) (fd:∀ a xs,H a=some (.lst xs)->a=z->False\/True) (nd:∀ dx fs,H p=some (.ins C dx fs)->∀ du,fs.lookup ("due" : Str)=some (.ref du)->du≠z):ZY K H' C p R gs now n wl g j:=by
 obtain ⟨dx,nw,co,du,xs,kvs,ds,pg,pj,hj,njw,gn,dn,oc,hd,al,ndg⟩:=h
 have bs:Buts [z] H H':=Buts.one s (by simp)
 have dz:=nd _ _ pg.ob du rfl
 have hj':=s _ _ (f j (by simp)) hj
 exact ⟨dx,nw,co,du,xs,kvs,ds,pg.buts bs nt (by simp [f p]) (by simp [f wl]) (by simp [f g]),pj.buts bs nt (.inl hj'),hj',njw,bs.tup nt gn,dn,oc.buts bs nt,s _ _ dz hd,y3 al bs nt,ndg⟩
def Jo (K:PySem.W.Frag) (H0 H:Hp) (r:Addr) (wd:String) (ms:List (Rat × Pr)) (es:List Bq) (last:Rat):Prop:=∃ (rr rb rn:Addr) (zs ws:List V),SqT K H r [.str wd,.ref rr,.ref rb,.ref rn]/\H rr=some (.lst zs)/\Al2 (MtP K H) zs ms/\H rb=some (.lst ws)/\Al2 (BqH K 5990 H) ws (es.map (atB last))/\FQ K H rn last/\FB 2000 last/\H0 rr=none/\H0 rb=none/\rr≠rb
theorem Jo.told {K:PySem.W.Frag} {H0 H:Hp} {r:Addr} {wd:String} {ms:List (Rat × Pr)} {es:List Bq} {last:Rat} (h:Jo K H0 H r wd ms es last):ToldP K H r wd ms es last:=by
 obtain ⟨rr,rb,rn,zs,ws,h1,h2,h3,h4,h5,h6,h7,_⟩:=h
 exact ⟨rr,rb,rn,zs,ws,h1,h2,h3,h4,h5,h6,h7⟩
theorem Jo.of {K:PySem.W.Frag} {H0 H1 H:Hp} {r:Addr} {wd:String} {ms:List (Rat × Pr)} {es:List Bq} {last:Rat} (h:Jo K H1 H r wd ms es last) (s:Same H0 H1):Jo K H0 H r wd ms es last:=by
 obtain ⟨rr,rb,rn,zs,ws,h1,h2,h3,h4,h5,h6,h7,f1,f2,n⟩:=h
 exact ⟨rr,rb,rn,zs,ws,h1,h2,h3,h4,h5,h6,h7,s.free f1,s.free f2,n⟩
def Yt (K:PySem.W.Frag) (C:Addr):Sp:=fun vs H Q _=>∃ (p:Addr) (R:Rat × Rat) (gs:List Bq) (wl g j:Addr) (m B:Nat),vs=[.ref p,.int (m:Int)]/\ZY K H C p R gs 0 0 wl g j/\gs.length<=6/\WtB gs/\CmP B R gs/\B+90 * m<=1900/\m<=40/\∀ (r:Addr) (wd:String) (ms:List (Rat × Pr)) (es:List Bq) (last:Rat) (H1:Hp),Buts [p,g,j] H H1->RunP R gs 0 m wd ms es last->Jo K H H1 r wd ms es last->Q (.ref r) H1
theorem jQ:FnScope ["course","most","run","word"] ["course","most"] (zD (top 55)):=⟨rfl,rfl,rfl,by decide+kernel,rfl,by decide+kernel,by decide+kernel⟩
theorem ok_run_along (D:Df K mg "run_along" (top 55) ["course","most"]) (T:Tx K mg C) (F_end_word:Fn P w K mg base 8 "end_word" ["course","most"] (JJ K (C 0))) (F_Plane_meetings:FnM P w K mg base 1 (C 0) "meetings" ["self"] (YV K (C 0))) (F_Plane_go_on:FnM P w K mg base 7 (C 0) "go_on" ["self"] (spP_go_on K (C 0))) (F_Plane_bodies_at:FnM P w K mg base 5 (C 0) "bodies_at" ["self","moment"] (jy K (C 0))):Fn P w K mg base 9 "run_along" ["course","most"] (Yt K (C 0)):=by
 refine D.ok0 jQ (fun vs H Q E h=>?_) (fun f cdv A outer s H vs Q E hr h=>?_)
 ·obtain ⟨p,R,gs,wl,g,j,m,B,rfl,_⟩:=h
  rfl
 obtain ⟨p,R,gs,wl,g,j,m,B,rfl,cr,l6,hw,cm,hB,m40,k⟩:=h
 refine ⟨_,(zE (zN (i:=2) jQ.nd rfl (Or.inl rfl) (zv zB))
   (zE (zN (i:=3) jQ.nd rfl (Or.inl rfl) (zL F_end_word (by decide) hr (by rfl) zG (zA (pv 0) (zA (pv 1) zB))))
   (zE (Zv PassesOwn.never (zQ Jr (pv 3) y9 (zS _)) (zE (yJ (YE PySem.F.plainAttrs_list PySem.F.slot_list_extend PySem.F.type_list_extend mt_extend (pv 2) (zA (Zn T.cl_Plane F_Plane_meetings (by decide) hr zG (pv 0)) zB)))
   (zE (yJ (Zn T.cl_Plane F_Plane_go_on (by decide) hr zG (pv 0)))
   (zF (zN (i:=3) jQ.nd rfl (Or.inl rfl) (zL F_end_word (by decide) hr (by rfl) zG (zA (pv 0) (zA (pv 1) zB))))))))
   (zF (zM (zR (zA (pv 3) (zA (pv 2) (zA (yb T.cl_Plane F_Plane_bodies_at (by decide) hr zG (pv 0) (zA (zT T.cl_Plane T.n_Plane_now (pv 0)) zB)) (zA (zT T.cl_Plane T.n_Plane_now (pv 0)) zB)))))))))),?_⟩
 refine ⟨by show 0<=sizeLine; decide,?_⟩
 intro p2 n2
 obtain ⟨H2,q2,s2,e2⟩:=newO n2 (.lst [])
 rw [q2]
 clear q2
 have cr2:=cr.same s2
 have apart:∀ a,a=p\/a=wl\/a=g\/a=j->a≠p2:=fun a ha=>by
  obtain ⟨dx,nw,co,du,xs,kvs,ds,pg,pj,hj,_⟩:=id cr
  obtain ⟨_,_,_,_,hwl,_⟩:=pg.ws
  rcases ha with rfl|rfl|rfl|rfl
  ·exact zI pg.ob n2
  ·exact zI hwl n2
  ·exact zI pg.hg n2
  ·exact zI hj n2
 have apd:∀ dx fs,H2 p=some (.ins (C 0) dx fs)->∀ du,fs.lookup ("due" : Str)=some (.ref du)->du≠p2:=fun dx' fs' hp' du' hdu'=>by
  obtain ⟨dx,nw,co,du,xs,kvs,ds,pg,pj,hj,njw,gn,dn,oc,hd,_⟩:=id cr
  rw [s2 _ _ pg.ob] at hp'
  cases hp'
  cases (show some (V.ref du)=some (.ref du') from hdu')
  exact zI hd n2
 refine ⟨_,rfl,_,rfl,p,R,gs,0,0,wl,g,j,m,rfl,cr2,l6,Nat.zero_le _,fun w3 H3 s3 alt3=>?_⟩
 refine ⟨fun d σ' H'=>∃ (w4:V) (gk:List Bq) (now:Rat) (n:Nat) (zs:List V) (ms:List (Rat × Pr)),σ'=[some (.ref p),some (.int (m:Int)),some (.ref p2),some w4]/\d=m - n/\n<=m/\Buts [p,g,j,p2] H2 H'/\ZY K H' (C 0) p R gk now n wl g j/\gk.length=gs.length/\WtB gk/\CmP (B+90 * n) R gk/\(∀ dx fs,H' p=some (.ins (C 0) dx fs)->∀ du,fs.lookup ("due" : Str)=some (.ref du)->du≠p2)/\H' p2=some (.lst zs)/\Al2 (MtP K H') zs ms/\ms.length<=6 * n/\(∀ wd ms' es last,RunP R gk now (m - n) wd ms' es last->RunP R gs 0 m wd (ms++ms') es last)/\((w4=.non/\n < m/\(∃ t,comP R gk now=some t)/\crwP R gk now=false)\/∃ wd:String,w4=.str wd/\RunP R gk now (m - n) wd [] gk now),⟨_,w3,gs,0,0,[],[],rfl,rfl,Nat.zero_le _,Buts.of s3,cr2.same s3,rfl,hw,cm,?_,s3 _ _ e2,trivial,Nat.zero_le _,fun _ _ _ _ r=>r,alt3⟩,?_⟩
 ·intro dx' fs' hp' du' hdu'
  obtain ⟨dx,nw,co,du,xs,kvs,ds,pg,_⟩:=id cr2
  have z:=s3 _ _ pg.ob
  rw [hp'] at z
  cases z
  exact apd _ _ pg.ob du' hdu'
 rintro d σ' H4 ⟨w4,gk,now,n,zs,ms,rfl,rfl,nm,s4,cr4,ln,hw4,cm4,du4,e4,az,lm,go,alt⟩
 obtain ⟨dx,nw,co,du,xs,kvs,ds,pg,pj,hj,njw,gn,dn,oc,hd,al,ndg⟩:=id cr4
 refine ⟨_,rfl,rfl,_,rfl,?_⟩
 rcases alt with ⟨rfl,nlt,⟨t,et⟩,ncr⟩|⟨wd,rfl,rq⟩
 ·refine zb (fun _=>?_) (fun c=>absurd rfl c)
  refine ⟨_,fun _ _ n=>n,?_⟩
  obtain ⟨pc,rfl,gt,dt⟩:∃ (pc:Addr),co=.ref pc/\FQ K H4 pc t/\FB 2000 t:=by
   rcases oc with ⟨e,_⟩|⟨t',pc,e,e',g',d'⟩
   ·rw [et] at e
    cases e
   ·rw [et] at e
    cases e
    exact ⟨pc,e',g',d'⟩
  have six:(dueP R gk now).length<=6:=due_six (by omega) (by
   have z:=ncr
   unfold crwP at z
   exact (Bool.or_eq_false_iff.mp z).1)
  refine ⟨_,rfl,.inl ⟨rfl,_,SqL.of e4⟩,_,rfl,p,_,_,rfl,pg.ob,rfl,p,dx,_,du,ds,dueP R gk now,t,pc,rfl,pg.ob,rfl,hd,al,due_few (by omega),fun q hq=>(ju q hq).1,rfl,gt,dt,fun r5 zs5 H5 s5 n5 e5 al5=>?_⟩
  have em:(dueP R gk now).map (fun q=>(t,q))=mtsP R gk now:=by
   unfold mtsP
   rw [et]
   rfl
  rw [em] at al5
  have lm5:(mtsP R gk now).length<=6:=by rw [<- em,List.length_map]; exact six
  have lz:=Al2.len az
  have lz5:=Al2.len al5
  refine ⟨p2,r5,zs,zs5,rfl,rfl,s5 _ _ e4,e5,Nat.le_trans (show zs.length+zs5.length<=6 * 41+6 by omega) (by decide),?_⟩
  obtain ⟨H6,q6,s6,e6⟩:=newB (H:=H5) (p:=p2) (.lst (zs++zs5))
  dsimp only
  rw [q6]
  clear q6
  have hp5:=s5 _ _ e4
  have bs6:Buts [p2] H5 H6:=Buts.one s6 (List.mem_singleton.mpr rfl)
  have nt5:NoT [p2] H5:=NoT.lst hp5 NoT.nil
  have dup:du≠p2:=du4 _ _ pg.ob du rfl
  have cr6:ZY K H6 (C 0) p R gk now n wl g j:=plnat_but (cr4.same s5) s6 nt5 apart (fun _ _ _ _=>.inr trivial) (fun dx' fs' hp' du' hdu'=>by
   rw [s5 _ _ pg.ob] at hp'
   cases hp'
   cases (show some (V.ref du)=some (.ref du') from hdu')
   exact dup)
  obtain ⟨dx6,nw6,co6,du6,xs6,kvs6,ds6,pg6,pj6,hj6,_⟩:=id cr6
  refine ⟨_,rfl,p,_,_,rfl,pg6.ob,rfl,p,R,gk,now,n,wl,g,j,t,B+90 * n,rfl,cr6,by omega,hw4,et,cm4,by omega,fun H7 s7 cr7 nd7=>?_⟩
  have nt6:NoT [p,g,j] H6:=NoT.ins pg6.ob (NoT.lst pg6.hg (NoT.dct hj6 NoT.nil))
  have e7:=s7 _ _ (by simp [Ne.symm (apart p (by simp)),Ne.symm (apart g (by simp)),Ne.symm (apart j (by simp))]) e6
  have az7:Al2 (MtP K H7) (zs++zs5) (ms++mtsP R gk now):=mtp_buts (mtp_buts (al_app (jd az s5) al5) bs6 nt5) s7 nt6
  have on_ln:(onP R gk now).length=gk.length:=Z7 _ _
  obtain ⟨cm7,hw7⟩:=Yz (dueP R gk now) cm4 hw4 (fun q hq=>ju q hq)
  refine ⟨_,rfl,_,rfl,p,R,onP R gk now,t,n+1,wl,g,j,m,rfl,cr7,by omega,by omega,fun w8 H8 s8 alt8=>?_⟩
  refine ⟨m - (n+1),by omega,w8,onP R gk now,t,n+1,zs++zs5,ms++mtsP R gk now,rfl,rfl,by omega,?_,cr7.same s8,by omega,hw7,cm7.mono (by omega),?_,s8 _ _ e7,jd az7 s8,by rw [List.length_append]; omega,fun wd ms' es last r=>?_,alt8⟩
  ·exact s4.trans ((Buts.of s5).trans ((Buts.one s6 (by simp)).trans ((s7.mono (by simp)).trans (Buts.of s8))))
  ·intro dx' fs' hp' du' hdu' z
   obtain ⟨dx7,nw7,co7,du7,xs7,kvs7,ds7,pg7,pj7,hj7,njw7,gn7,dn7,oc7,hd7,al7,ndg7⟩:=id cr7
   have y:=s8 _ _ pg7.ob
   rw [hp'] at y
   cases y
   cases (show some (V.ref du7)=some (.ref du') from hdu')
   rcases nd7 _ _ pg7.ob _ rfl p2 _ e6 with y|y
   ·exact y z
   ·exact apart p2 (by rcases y with y|y|y<;>simp [y]) rfl
  ·have z:RunP R gk now (m - (n+1)+1) wd (mtsP R gk now++ms') es last:=.step et ncr r
   rw [show m - (n+1)+1=m - n by omega] at z
   have z2:=go wd _ es last z
   rw [<- List.append_assoc] at z2
   exact z2
 ·refine zb (fun c=>nomatch c) (fun _=>?_)
  refine ⟨_,rfl,_,rfl,_,rfl,p,_,_,rfl,pg.ob,rfl,_,rfl,p,_,_,_,rfl,pg.ob,rfl,p,nw,dx,g,_,xs,gk,now,rfl,pg.ob,rfl,pg.hg,pg.al,by omega,gn,dn,fun r5 zs5 H5 s5 n5 e5 al5=>?_⟩
  refine ⟨_,rfl,p,_,_,_,rfl,s5 _ _ pg.ob,rfl,by show 4<=sizeLine; decide,?_⟩
  intro p6 n6
  obtain ⟨H6,q6,s6,e6⟩:=newO n6 (.tup [.str wd,.ref p2,.ref r5,.ref nw])
  rw [q6]
  clear q6
  have s46:=s5.trans s6
  have fin:=go wd [] gk now rq
  rw [List.append_nil] at fin
  have f5:H r5=none:=by
   cases e:H r5 with
   |none=>rfl
   |some o=>
    have z:=s4 r5 o (by
     simp only [List.mem_cons,List.not_mem_nil,or_false,not_or]
     exact ⟨Ne.symm (zI pg.ob n5),Ne.symm (zI pg.hg n5),Ne.symm (zI hj n5),Ne.symm (zI e4 n5)⟩) (s2 _ _ e)
    rw [n5] at z
    cases z
  refine k p6 wd ms gk now H6 ?_ fin ⟨p2,r5,nw,zs,zs5,SqT.of e6,s46 _ _ e4,jd az s46,s6 _ _ e5,zk al5 s6,Kw.Same.tup s46 gn,dn,n2,f5,zI e4 n5⟩
  intro a o na ho
  have a2:a≠p2:=zI ho n2
  refine s46 a o (s4 a o ?_ (s2 a o ho))
  simp only [List.mem_cons,List.not_mem_nil,or_false,not_or] at na ⊢
  exact ⟨na.1,na.2.1,na.2.2,a2⟩
def jU (K:PySem.W.Frag):Sp:=fun vs H Q _=>∃ (p:Addr) (q:Rat),vs=[.ref p]/\FQ K H p q/\FB 4000 q/\Q (.bl true) H
theorem jZ:FnScope ["thing","top","bottom"] ["thing"] (zD (top 12)):=⟨rfl,rfl,rfl,by decide+kernel,rfl,by decide+kernel,by decide+kernel⟩
theorem ok_is_fraction (D:Df K mg "is_fraction" (top 12) ["thing"]) (T:Tx K mg C) (F_is_whole:Fn P w K mg base 1 "is_whole" ["thing"] (Yn K)) (F_common_divisor:Fn P w K mg base 1 "common_divisor" ["one","other"] Jn):Fn P w K mg base 2 "is_fraction" ["thing"] (jU K):=by
 refine D.ok0 jZ (fun vs H Q E h=>?_) (fun f cdv A outer s H vs Q E hr h=>?_)
 ·obtain ⟨p,q,rfl,_⟩:=h
  rfl
 obtain ⟨p,q,rfl,hp,dq,k⟩:=h
 refine ⟨_,(zE (zh (jM (yv (zn (zV (jf (K:=K) rfl) (by rfl) T.b_isinstance PyProof.Rows.Boot.«isinstance» (zA (pv 0) (zA (YM (by rfl) T.b_tuple PyProof.Rows.Boot.«tuple») zB))) (fun _=>rfl))) (ym (zQ op_ne (zV yG (by rfl) T.b_len PyProof.Rows.Boot.«len» (zA (pv 0) zB)) zC (zS _)))).pt (zF (zM jN)) zU)
   (zE (zN (i:=1) jZ.nd rfl (Or.inl rfl) (zH ix_tup (pv 0) zC (fun _ _=>rfl)))
   (zE (zN (i:=2) jZ.nd rfl (Or.inl rfl) (zH ix_tup (pv 0) zC (fun _ _=>rfl)))
   (zE (zh (jM (yv (zn (zL F_is_whole (by decide) hr (by rfl) zG (zA (pv 1) zB)) (fun _=>rfl))) (ym (yv (zn (zL F_is_whole (by decide) hr (by rfl) zG (zA (pv 2) zB)) (fun _=>rfl))))).pt (zF (zM jN)) zU)
   (zF (zM (yd (yg YU (pv 2) zC (zS _)) (yR (yg ZB (zL F_common_divisor (by decide) hr (by rfl) zG (zA (pv 1) (zA (pv 2) zB))) zC (zS _)))))))))),?_⟩
 have hp':SqT K H p [.int q.num,.int ((q.den:Nat):Int)]:=hp
 refine ⟨_,rfl,_,_,true,rfl,.inl ⟨_,rfl⟩,.inr ⟨_,_,rfl,hp',ji⟩,_,rfl,iteF ?_⟩
 refine ⟨_,rfl,_,_,rfl,.inr ⟨_,hp',rfl⟩,rfl,_,rfl,iteF ?_⟩
 refine ⟨_,rfl,p,_,_,_,rfl,rfl,hp',rfl,_,rfl,p,_,_,_,rfl,rfl,hp',rfl,?_⟩
 refine ⟨_,rfl,_,_,true,false,rfl,.int _,yr,yY,_,rfl,iteF ?_⟩
 refine ⟨_,rfl,_,_,true,false,rfl,.int _,yr,yY,_,rfl,iteF ?_⟩
 refine ⟨_,rfl,_,_,rfl,rfl,_,rfl,?_⟩
 have d1:(1:Int)<=((q.den:Nat):Int):=by have:=q.den_pos; omega
 refine zb (fun _=>?_) (fun c=>absurd d1 c)
 refine ⟨_,rfl,_,rfl,q.num,((q.den:Nat):Int),rfl,dq.2,rfl,?_⟩
 have g1:Int.gcd q.num ((q.den:Nat):Int)=1:=q.reduced
 rw [g1]
 exact k
def jr (K:PySem.W.Frag):Sp:=fun vs H Q _=>∃ (p:Addr) (q:Rat),vs=[.ref p]/\FQ K H p q/\FB 1990 q/\0 < q/\∀ (H1:Hp),Same H H1->Q (.bl true) H1
theorem sc_is_breadth:FnScope ["thing"] ["thing"] (zD (top 36)):=⟨rfl,rfl,rfl,by decide+kernel,rfl,by decide+kernel,by decide+kernel⟩
theorem ok_is_breadth (D:Df K mg "is_breadth" (top 36) ["thing"]) (T:Tx K mg C) (F_is_fraction:Fn P w K mg base 2 "is_fraction" ["thing"] (jU K)) (F_under:Fn P w K mg base 1 "under" ["one","other"] (Zy K)):Fn P w K mg base 3 "is_breadth" ["thing"] (jr K):=by
 refine D.ok0 sc_is_breadth (fun vs H Q E h=>?_) (fun f cdv A outer s H vs Q E hr h=>?_)
 ·obtain ⟨p,q,rfl,_⟩:=h
  rfl
 obtain ⟨p,q,rfl,hp,dq,q0,k⟩:=h
 refine ⟨_,(zF (zM (yd (zL F_is_fraction (by decide) hr (by rfl) zG (zA (pv 0) zB)) (yR (zL F_under (by decide) hr (by rfl) zG (zA (zl (K:=K) rfl (by rfl) T.k_NOUGHT) (zA (pv 0) zB))))))),?_⟩
 refine ⟨_,rfl,p,q,rfl,hp,dq.mono (by decide),_,rfl,iteT fun N hN=>?_⟩
 refine ⟨_,rfl,N,0,p,q,rfl,z9 (hN _),yB.mono (by decide),hp,dq.mono (by decide),fun H1 s1=>?_⟩
 have z:=k H1 s1
 rw [<- decide_eq_true q0] at z
 exact z
def Yq (K:PySem.W.Frag):Sp:=fun vs H Q _=>∃ (m:Int),vs=[.int m]/\1<=m/\m<=1000/\Q (.bl true) H
theorem sc_is_weight:FnScope ["thing"] ["thing"] (zD (top 30)):=⟨rfl,rfl,rfl,by decide+kernel,rfl,by decide+kernel,by decide+kernel⟩
theorem ok_is_weight (D:Df K mg "is_weight" (top 30) ["thing"]) (T:Tx K mg C) (F_is_whole:Fn P w K mg base 1 "is_whole" ["thing"] (Yn K)):Fn P w K mg base 2 "is_weight" ["thing"] (Yq K):=by
 refine D.ok0 sc_is_weight (fun vs H Q E h=>?_) (fun f cdv A outer s H vs Q E hr h=>?_)
 ·obtain ⟨m,rfl,_⟩:=h
  rfl
 obtain ⟨m,rfl,m1,m2,k⟩:=h
 refine ⟨_,(zF (zM (yd (zL F_is_whole (by decide) hr (by rfl) zG (zA (pv 0) zB)) (yR (pe_chain Jw Jw zC (pv 0) (zW (by rfl) T.k_MOST_WEIGHT)))))),?_⟩
 refine ⟨_,rfl,_,_,true,false,rfl,.int m,yr,yY,_,rfl,iteT ?_⟩
 refine ⟨_,rfl,_,_,rfl,rfl,_,rfl,?_⟩
 refine zb (fun _=>?_) (fun c=>absurd m1 c)
 have z:=k
 rw [<- decide_eq_true m2] at z
 exact ⟨_,_,rfl,rfl,z⟩
def sp_is_box (K:PySem.W.Frag):Sp:=fun vs H Q _=>∃ (z:V) (b:Bq),vs=[z]/\BqH K 1990 H z b/\0 < b.w/\0 < b.h/\(∃ m,b.m=some m)/\∀ (H1:Hp),Same H H1->Q (.bl true) H1
theorem sc_is_box:FnScope ["thing"] ["thing"] (zD (top 37)):=⟨rfl,rfl,rfl,by decide+kernel,rfl,by decide+kernel,by decide+kernel⟩
theorem ok_is_box (D:Df K mg "is_box" (top 37) ["thing"]) (T:Tx K mg C) (F_is_fraction:Fn P w K mg base 2 "is_fraction" ["thing"] (jU K)) (F_is_breadth:Fn P w K mg base 3 "is_breadth" ["thing"] (jr K)) (F_is_weight:Fn P w K mg base 2 "is_weight" ["thing"] (Yq K)):Fn P w K mg base 4 "is_box" ["thing"] (sp_is_box K):=by
 refine D.ok0 sc_is_box (fun vs H Q E h=>?_) (fun f cdv A outer s H vs Q E hr h=>?_)
 ·obtain ⟨z,b,rfl,_⟩:=h
  rfl
 obtain ⟨z,b,rfl,⟨p,a0,a1,a2,a3,a4,a5,rfl,hp,⟨g0,g1,g2,g3,g4,g5⟩,⟨d0,d1,d2,d3,d4,d5⟩,wt⟩,w0,h0,⟨m,em⟩,k⟩:=h
 refine ⟨_,(zE (zh (jM (yv (zn (zV (jf (K:=K) rfl) (by rfl) T.b_isinstance PyProof.Rows.Boot.«isinstance» (zA (pv 0) (zA (YM (by rfl) T.b_tuple PyProof.Rows.Boot.«tuple») zB))) (fun _=>rfl))) (ym (zQ op_ne (zV yG (by rfl) T.b_len PyProof.Rows.Boot.«len» (zA (pv 0) zB)) zC (zS _)))).pt (zF (zM jN)) zU)
   (zE (zh (yv (zn (zV (call_all (K:=K) rfl rfl) (by rfl) T.b_all PyProof.Rows.Boot.«all» (zA (@Jy _ _ _ _ _ _ _ _ _ _ ["thing"] [0] rfl (pi_tup (zR (zA zC (zA zC (zA zC (zA zC zB)))))) rfl (by decide) rfl (by decide) rfl (by decide) (ZQ (j:=0) rfl rfl rfl rfl (.inl rfl)) (fun y c h=>h) (YO rfl) (fun C z Hc fp=>(zL F_is_fraction (by decide) hr (by rfl) zG (zA (zH (ixT (K:=K) rfl) (pv 1) (pv 0) (fun _ _=>rfl)) zB))) (fun _=>rfl)) zB)) (fun _=>rfl))) (zF (zM jN)) zU)
   (zF (zM (yd (zL F_is_breadth (by decide) hr (by rfl) zG (zA (zH ix_tup (pv 0) zC (fun _ _=>rfl)) zB)) (yd (zL F_is_breadth (by decide) hr (by rfl) zG (zA (zH ix_tup (pv 0) zC (fun _ _=>rfl)) zB)) (yR (zL F_is_weight (by decide) hr (by rfl) zG (zA (zH ix_tup (pv 0) zC (fun _ _=>rfl)) zB))))))))),?_⟩
 obtain ⟨m1,m2⟩:=wt m em
 rw [em] at hp
 refine ⟨_,rfl,_,_,true,rfl,.inl ⟨_,rfl⟩,.inr ⟨_,_,rfl,hp,ji⟩,_,rfl,iteF ?_⟩
 refine ⟨_,rfl,_,_,rfl,.inr ⟨_,hp,rfl⟩,rfl,_,rfl,iteF ?_⟩
 refine ⟨by show 4<=sizeLine; decide,?_⟩
 intro p1 n1
 obtain ⟨H1,q1,s1,e1⟩:=newO n1 (.tup [.int 0,.int 1,.int 4,.int 5])
 rw [q1]
 clear q1
 have hp1:=Kw.Same.tup s1 hp
 refine ⟨p1,rfl,⟨_,SqT.of e1⟩,lc_tup (K:=K) (xs:=[.int 0,.int 1,.int 4,.int 5]) (fun i ys H'=>H1=H'/\ys=([true,true,true,true].take i).map V.bl/\i<=4) ⟨rfl,rfl,by omega⟩ (by rw [sizeLine_eq]; simp) (fun i ys H' ⟨_,e,l⟩=>by rw [e]; simp; omega) (fun i ys H' ⟨e,_⟩=>by rw [<- e]; exact SqT.of e1) ?_ ?_⟩
 ·rintro i y ys H' Q' hy ⟨rfl,rfl,li⟩ k
  match i,hy with
  |0,hy=>cases hy; exact ⟨_,rfl,_,rfl,p,_,_,_,rfl,rfl,hp1,rfl,_,_,rfl,Kw.Same.tup s1 g0,d0.mono (by decide),k _ _ ⟨rfl,rfl,by omega⟩⟩
  |1,hy=>cases hy; exact ⟨_,rfl,_,rfl,p,_,_,_,rfl,rfl,hp1,rfl,_,_,rfl,Kw.Same.tup s1 g1,d1.mono (by decide),k _ _ ⟨rfl,rfl,by omega⟩⟩
  |2,hy=>cases hy; exact ⟨_,rfl,_,rfl,p,_,_,_,rfl,rfl,hp1,rfl,_,_,rfl,Kw.Same.tup s1 g4,d4.mono (by decide),k _ _ ⟨rfl,rfl,by omega⟩⟩
  |3,hy=>cases hy; exact ⟨_,rfl,_,rfl,p,_,_,_,rfl,rfl,hp1,rfl,_,_,rfl,Kw.Same.tup s1 g5,d5.mono (by decide),k _ _ ⟨rfl,rfl,by omega⟩⟩
 ·rintro ys H' ⟨rfl,ey,_⟩
  replace ey:ys=[true,true,true,true].map V.bl:=ey
  subst ey
  intro p5 n5
  obtain ⟨H5,q5,s5,e5⟩:=newO n5 (.lst ([true,true,true,true].map V.bl))
  rw [q5]
  clear q5
  have s15:=s1.trans s5
  refine ⟨p5,[true,true,true,true],rfl,SqL.of e5,_,rfl,iteF ?_⟩
  have hp5:=Kw.Same.tup s15 hp
  refine ⟨_,rfl,p,_,_,_,rfl,rfl,hp5,rfl,_,_,rfl,Kw.Same.tup s15 g2,d2,w0,fun H6 s6=>⟨_,rfl,iteT ?_⟩⟩
  have s16:=s15.trans s6
  have hp6:=Kw.Same.tup s16 hp
  refine ⟨_,rfl,p,_,_,_,rfl,rfl,hp6,rfl,_,_,rfl,Kw.Same.tup s16 g3,d3,h0,fun H7 s7=>⟨_,rfl,iteT ?_⟩⟩
  have s17:=s16.trans s7
  have hp7:=Kw.Same.tup s17 hp
  exact ⟨_,rfl,p,_,_,_,rfl,rfl,hp7,rfl,m,rfl,m1,m2,k _ s17⟩
def zAH (K:PySem.W.Frag):Sp:=fun vs H Q _=>∃ (r x y:Addr) (R:Rat × Rat),vs=[.ref r]/\SqT K H r [.ref x,.ref y]/\FQ K H x R.1/\FQ K H y R.2/\FB 1990 R.1/\FB 1990 R.2/\0 < R.1/\0 < R.2/\∀ (H1:Hp),Same H H1->Q (.bl true) H1
theorem sc_is_room:FnScope ["thing"] ["thing"] (zD (top 38)):=⟨rfl,rfl,rfl,by decide+kernel,rfl,by decide+kernel,by decide+kernel⟩
theorem ok_is_room (D:Df K mg "is_room" (top 38) ["thing"]) (T:Tx K mg C) (F_is_breadth:Fn P w K mg base 3 "is_breadth" ["thing"] (jr K)):Fn P w K mg base 4 "is_room" ["thing"] (zAH K):=by
 refine D.ok0 sc_is_room (fun vs H Q E h=>?_) (fun f cdv A outer s H vs Q E hr h=>?_)
 ·obtain ⟨r,x,y,R,rfl,_⟩:=h
  rfl
 obtain ⟨r,x,y,R,rfl,hr0,gx,gy,fx,fy,x0,y0,k⟩:=h
 refine ⟨_,(zF (zM (yd (zV (jf (K:=K) rfl) (by rfl) T.b_isinstance PyProof.Rows.Boot.«isinstance» (zA (pv 0) (zA (YM (by rfl) T.b_tuple PyProof.Rows.Boot.«tuple») zB))) (yd (yg ZB (zV yG (by rfl) T.b_len PyProof.Rows.Boot.«len» (zA (pv 0) zB)) zC (zS _)) (yd (zL F_is_breadth (by decide) hr (by rfl) zG (zA (zH ix_tup (pv 0) zC (fun _ _=>rfl)) zB)) (yR (zL F_is_breadth (by decide) hr (by rfl) zG (zA (zH ix_tup (pv 0) zC (fun _ _=>rfl)) zB)))))))),?_⟩
 refine ⟨_,rfl,_,_,true,rfl,.inl ⟨_,rfl⟩,.inr ⟨_,_,rfl,hr0,ji⟩,_,rfl,iteT ?_⟩
 refine ⟨_,rfl,_,_,rfl,.inr ⟨_,hr0,rfl⟩,rfl,_,rfl,iteT ?_⟩
 refine ⟨_,rfl,r,_,_,_,rfl,rfl,hr0,rfl,x,R.1,rfl,gx,fx,x0,fun H1 s1=>⟨_,rfl,iteT ?_⟩⟩
 have hr1:=Kw.Same.tup s1 hr0
 exact ⟨_,rfl,r,_,_,_,rfl,rfl,hr1,rfl,y,R.2,rfl,Kw.Same.tup s1 gy,fy,y0,fun H2 s2=>k H2 (s1.trans s2)⟩
def Yl (K:PySem.W.Frag):Sp:=fun vs H Q _=>∃ (z:V) (b:Bq) (r x y:Addr) (R:Rat × Rat),vs=[z,.ref r]/\BqH K 1990 H z b/\SqT K H r [.ref x,.ref y]/\FQ K H x R.1/\FQ K H y R.2/\FB 1990 R.1/\FB 1990 R.2/\InR R b/\∀ (H1:Hp),Same H H1->Q (.bl true) H1
theorem Ym:FnScope ["box","room","way"] ["box","room"] (zD (top 40)):=⟨rfl,rfl,rfl,by decide+kernel,rfl,by decide+kernel,by decide+kernel⟩
theorem ok_is_within (D:Df K mg "is_within" (top 40) ["box","room"]) (T:Tx K mg C) (F_under:Fn P w K mg base 1 "under" ["one","other"] (Zy K)) (F_far_side:Fn P w K mg base 3 "far_side" ["box","way"] (jH K)):Fn P w K mg base 4 "is_within" ["box","room"] (Yl K):=by
 refine D.ok0 Ym (fun vs H Q E h=>?_) (fun f cdv A outer s H vs Q E hr h=>?_)
 ·obtain ⟨z,b,r,x,y,R,rfl,_⟩:=h
  rfl
 obtain ⟨z,b,r,x,y,R,rfl,hz,hr0,gx,gy,fx,fy,ir,k⟩:=h
 refine ⟨_,(zE (yF PassesOwn.never rfl (pi_tup (zR (zA (zW (by rfl) T.k_ACROSS) (zA (zW (by rfl) T.k_ALONG) zB)))) (za (i:=2) Ym.nd rfl (Or.inl rfl)) (zF (zh (jM (zn (zL F_under (by decide) hr (by rfl) zG (zA (zH ix_tup (pv 0) (pv 2) (fun _ _=>rfl)) (zA (zl (K:=K) rfl (by rfl) T.k_NOUGHT) zB))) (fun _=>rfl)) (ym (zn (zL F_under (by decide) hr (by rfl) zG (zA (zH ix_tup (pv 1) (pv 2) (fun _ _=>rfl)) (zA (zL F_far_side (by decide) hr (by rfl) zG (zA (pv 0) (zA (pv 2) zB))) zB))) (fun _=>rfl)))).pt (zF (zM jN)) zU)))
   (zF (zM jN))),?_⟩
 obtain ⟨p,a0,a1,a2,a3,a4,a5,rfl,hp,⟨g0,g1,g2,g3,g4,g5⟩,⟨d0,d1,d2,d3,d4,d5⟩,wt⟩:=id hz
 refine ⟨by show 2<=sizeLine; decide,?_⟩
 intro p1 n1
 obtain ⟨H1,q1,s1,e1⟩:=newO n1 (.tup [.int 0,.int 1])
 rw [q1]
 clear q1
 refine ⟨p1,rfl,⟨_,SqT.of e1⟩,for_tup (K:=K) (xs:=[.int 0,.int 1]) (fun d σ' H'=>∃ (u2:Option V),σ'=[some (.ref p),some (.ref r),u2]/\Same H1 H') ⟨_,rfl,Same.refl _⟩ ?_ ?_ ?_⟩
 ·rintro d σ' H2 _ ⟨u2,rfl,s2⟩
  exact Kw.Same.tup s2 (SqT.of e1)
 ·rintro d y0 σ' H2 hx ⟨u2,rfl,s2⟩
  have s02:=s1.trans s2
  have hp2:=Kw.Same.tup s02 hp
  have hr2:=Kw.Same.tup s02 hr0
  match d,hx with
  |0,hx=>
   cases hx
   refine ⟨_,rfl,_,rfl,p,_,_,_,rfl,rfl,hp2,rfl,fun N hN=>?_⟩
   refine ⟨_,b.x,N,0,rfl,Kw.Same.tup s02 g0,d0.mono (by decide),z9 (hN _),yB.mono (by decide),fun H3 s3=>⟨_,rfl,?_⟩⟩
   refine zb (fun c=>absurd c (Yr ir.2.2.1)) (fun _=>?_)
   have s03:=s02.trans s3
   have hr3:=Kw.Same.tup s03 hr0
   refine ⟨_,rfl,_,rfl,r,_,_,_,rfl,rfl,hr3,rfl,_,rfl,_,rfl,_,b,0,rfl,(hz.same s03).mono (by decide),by decide,fun r4 H4 s4 g4' f4=>?_⟩
   refine ⟨_,R.1,r4,_,rfl,Kw.Same.tup (s03.trans s4) gx,fx.mono (by decide),g4',f4.mono (by decide),fun H5 s5=>⟨_,rfl,?_⟩⟩
   refine zb (fun c=>absurd c (Yr ir.2.2.2.2.1)) (fun _=>?_)
   exact ⟨_,rfl,s2.trans (s3.trans (s4.trans s5))⟩
  |1,hx=>
   cases hx
   refine ⟨_,rfl,_,rfl,p,_,_,_,rfl,rfl,hp2,rfl,fun N hN=>?_⟩
   refine ⟨_,b.y,N,0,rfl,Kw.Same.tup s02 g1,d1.mono (by decide),z9 (hN _),yB.mono (by decide),fun H3 s3=>⟨_,rfl,?_⟩⟩
   refine zb (fun c=>absurd c (Yr ir.2.2.2.1)) (fun _=>?_)
   have s03:=s02.trans s3
   have hr3:=Kw.Same.tup s03 hr0
   refine ⟨_,rfl,_,rfl,r,_,_,_,rfl,rfl,hr3,rfl,_,rfl,_,rfl,_,b,1,rfl,(hz.same s03).mono (by decide),by decide,fun r4 H4 s4 g4' f4=>?_⟩
   refine ⟨_,R.2,r4,_,rfl,Kw.Same.tup (s03.trans s4) gy,fy.mono (by decide),g4',f4.mono (by decide),fun H5 s5=>⟨_,rfl,?_⟩⟩
   refine zb (fun c=>absurd c (Yr ir.2.2.2.2.2)) (fun _=>?_)
   exact ⟨_,rfl,s2.trans (s3.trans (s4.trans s5))⟩
 ·rintro σ' H2 ⟨u2,rfl,s2⟩
  exact k H2 (s1.trans s2)
def zAD (K:PySem.W.Frag):Sp:=fun vs H Q _=>∃ (z y:V) (a b:Bq),vs=[z,y]/\BqH K 5990 H z a/\BqH K 5990 H y b/\∀ (H1:Hp),Same H H1->Q (.bl (hicB a b 0 && hicB a b 1)) H1
theorem sc_overlap:FnScope ["one","other"] ["one","other"] (zD (top 42)):=⟨rfl,rfl,rfl,by decide+kernel,rfl,by decide+kernel,by decide+kernel⟩
theorem ok_overlap (D:Df K mg "overlap" (top 42) ["one","other"]) (T:Tx K mg C) (F_have_in_common:Fn P w K mg base 4 "have_in_common" ["one","other","way"] (yP K)):Fn P w K mg base 5 "overlap" ["one","other"] (zAD K):=by
 refine D.ok0 sc_overlap (fun vs H Q E h=>?_) (fun f cdv A outer s H vs Q E hr h=>?_)
 ·obtain ⟨z,y,a,b,rfl,_⟩:=h
  rfl
 obtain ⟨z,y,a,b,rfl,hz,hy,k⟩:=h
 refine ⟨_,(zF (zM (yd (zL F_have_in_common (by decide) hr (by rfl) zG (zA (pv 0) (zA (pv 1) (zA (zW (by rfl) T.k_ACROSS) zB)))) (yR (zL F_have_in_common (by decide) hr (by rfl) zG (zA (pv 0) (zA (pv 1) (zA (zW (by rfl) T.k_ALONG) zB)))))))),?_⟩
 refine ⟨_,rfl,_,rfl,_,_,a,b,0,rfl,hz,hy,by decide,fun H1 s1=>⟨_,rfl,?_⟩⟩
 cases c:hicB a b 0 with
 |true=>
  refine iteT ⟨_,rfl,_,rfl,_,_,a,b,1,rfl,hz.same s1,hy.same s1,by decide,fun H2 s2=>?_⟩
  have w:=k H2 (s1.trans s2)
  rw [c,Bool.true_and] at w
  exact w
 |false=>
  have w:=k H1 s1
  rw [c,Bool.false_and] at w
  exact iteF w
def Zc (K:PySem.W.Frag):Sp:=fun vs H Q _=>∃ (r x y l:Addr) (R:Rat × Rat) (xs:List V) (gs:List Bq),vs=[.ref r,.ref l]/\SqT K H r [.ref x,.ref y]/\FQ K H x R.1/\FQ K H y R.2/\FB 1990 R.1/\FB 1990 R.2/\H l=some (.lst xs)/\Al2 (BqH K 1990 H) xs gs/\GdP R gs/\∀ (H1:Hp),Same H H1->Q .non H1
theorem jK:FnScope ["room","boxes","one","other"] ["room","boxes"] (zD (top 61)):=⟨rfl,rfl,rfl,by decide+kernel,rfl,by decide+kernel,by decide+kernel⟩
theorem ok_refuse_boxes (D:Df K mg "refuse_boxes" (top 61) ["room","boxes"]) (T:Tx K mg C) (F_is_room:Fn P w K mg base 4 "is_room" ["thing"] (zAH K)) (F_is_box:Fn P w K mg base 4 "is_box" ["thing"] (sp_is_box K)) (F_is_within:Fn P w K mg base 4 "is_within" ["box","room"] (Yl K)) (F_overlap:Fn P w K mg base 5 "overlap" ["one","other"] (zAD K)):Fn P w K mg base 6 "refuse_boxes" ["room","boxes"] (Zc K):=by
 refine D.ok0 jK (fun vs H Q E h=>?_) (fun f cdv A outer s H vs Q E hr h=>?_)
 ·obtain ⟨r,x,y,l,R,xs,gs,rfl,_⟩:=h
  rfl
 obtain ⟨r,x,y,l,R,xs,gs,rfl,hr0,gx,gy,fx,fy,hl,al,gd,k⟩:=h
 refine ⟨_,(zE (zh (yv (zn (zL F_is_room (by decide) hr (by rfl) zG (zA (pv 0) zB)) (fun _=>rfl))) (zF jI) zU)
   (zE (zh (jM (yv (zn (zV jm (by rfl) T.b_isinstance PyProof.Rows.Boot.«isinstance» (zA (pv 1) (zA (YM (by rfl) T.b_list PyProof.Rows.Boot.«list») zB))) (fun _=>rfl))) (ym (yv (pt_chain Jw Jw zC (zV yG (by rfl) T.b_len PyProof.Rows.Boot.«len» (zA (pv 1) zB)) (zW (by rfl) T.k_MOST_BOXES))))).pt (zF jI) zU)
   (zE (zh (yv (zn (zV (call_all (K:=K) rfl rfl) (by rfl) T.b_all PyProof.Rows.Boot.«all» (zA (@Jy _ _ _ _ _ _ _ _ _ _ ["room"] [0] rfl (yU (pv 1)) rfl (by decide) rfl (by decide) rfl (by decide) (ZQ (j:=0) rfl rfl rfl rfl (.inl rfl)) (fun y c h=>h) (YO rfl) (fun C z Hc fp=>(yd (zL F_is_box (by decide) hr (by rfl) zG (zA (pv 0) zB)) (yR (zL F_is_within (by decide) hr (by rfl) zG (zA (pv 0) (zA (pv 1) zB)))))) (fun _=>rfl)) zB)) (fun _=>rfl))) (zF jI) zU)
   (zF (yF PassesOwn.never rfl (yL (by rfl) T.b_range (zA (zV yG (by rfl) T.b_len PyProof.Rows.Boot.«len» (zA (pv 1) zB)) zB)) (za (i:=2) jK.nd rfl (Or.inl rfl)) (zF (yF PassesOwn.never rfl (pi_range2 (by rfl) T.b_range (zA (zO zj (pv 2) zC) (zA (zV yG (by rfl) T.b_len PyProof.Rows.Boot.«len» (zA (pv 1) zB)) zB))) (za (i:=3) jK.nd rfl (Or.inl rfl)) (zF (zh (zn (zL F_overlap (by decide) hr (by rfl) zG (zA (zH ix_list (pv 1) (pv 2) (fun _ _=>rfl)) (zA (zH ix_list (pv 1) (pv 3) (fun _ _=>rfl)) zB))) (fun _=>rfl)) (zF jI) zU))))))))),?_⟩
 have hz:=Al2.len al
 have l1:=gd.l1
 have l6:=gd.l6
 refine ⟨_,rfl,r,x,y,R,rfl,hr0,gx,gy,fx,fy,gd.r1,gd.r2,fun H1 s1=>⟨_,rfl,iteF ?_⟩⟩
 have hl1:=s1 _ _ hl
 refine ⟨_,rfl,_,_,true,rfl,.inl ⟨_,rfl⟩,⟨_,.lst hl1,kit_lst_lst⟩,_,rfl,iteF ?_⟩
 refine ⟨_,rfl,_,_,rfl,.inl ⟨_,SqL.of hl1,rfl⟩,_,_,rfl,rfl,?_⟩
 refine ⟨_,rfl,?_⟩
 refine zb (fun _=>?_) (fun c=>absurd (show (1:Int)<=((xs.length:Nat):Int) by omega) c)
 refine ⟨_,_,rfl,rfl,_,rfl,?_⟩
 refine if_not (fun c=>absurd (show ((xs.length:Nat):Int)<=6 by omega) c) (fun _=>?_)
 refine ⟨_,rfl,l,rfl,⟨_,SqL.of hl1⟩,Yy (K:=K) (xs:=xs) (fun i ys H'=>i<=xs.length/\Same H1 H'/\ys=(List.replicate i true).map V.bl) ⟨Nat.zero_le _,Same.refl _,rfl⟩ (by rw [hz]; exact Nat.le_trans l6 (by decide)) (fun i ys H2 z=>by obtain ⟨_,_,e⟩:=z; rw [e]; simp) (fun i ys H2 z=>by obtain ⟨_,g,_⟩:=z; exact SqL.of (g _ _ hl1)) ?_ ?_⟩
 ·rintro i vb ys H2 Q1 hx ⟨hi,s2,rfl⟩ kq
  have hi:i < xs.length:=(List.getElem?_eq_some_iff.mp hx).1
  have s02:=s1.trans s2
  obtain ⟨b,hb,hq⟩:=Al2.get (zk al s02) hx
  have hm:=List.mem_of_getElem? hb
  have ir:=gd.al b hm
  obtain ⟨m,em,_⟩:=gd.wt b hm
  refine ⟨_,rfl,vb,b,rfl,hq,ir.1,ir.2.1,⟨m,em⟩,fun H3 s3=>⟨_,rfl,iteT ?_⟩⟩
  have s03:=s02.trans s3
  refine ⟨_,rfl,_,rfl,vb,b,r,x,y,R,rfl,hq.same s3,Kw.Same.tup s03 hr0,Kw.Same.tup s03 gx,Kw.Same.tup s03 gy,fx,fy,ir,fun H4 s4=>?_⟩
  refine kq _ _ ⟨hi,s2.trans (s3.trans s4),?_⟩
  rw [List.replicate_succ',List.map_append]
  rfl
 rintro ys H2 ⟨_,s2,rfl⟩ p5 n5
 obtain ⟨H3,q3,s3,e3⟩:=newO n5 (.lst ((List.replicate xs.length true).map V.bl))
 rw [q3]
 clear q3
 have ea:(List.replicate xs.length true).all id=true:=by simp
 refine ⟨p5,List.replicate xs.length true,rfl,SqL.of e3,_,rfl,?_⟩
 rw [ea]
 refine iteF ?_
 have s03:=s1.trans (s2.trans s3)
 have hl3:=s03 _ _ hl
 refine ⟨_,rfl,_,_,rfl,.inl ⟨_,SqL.of hl3,rfl⟩,_,rfl,by omega,by omega,yI (n:=((xs.length:Nat):Int).toNat) (fun i σ1 H'=>∃ (u2 u3:Option V),σ1=[some (.ref r),some (.ref l),u2,u3]/\Same H3 H') ⟨_,_,rfl,Same.refl _⟩ ?_ ?_⟩
 ·rintro i σ1 H4 hi ⟨u2,u3,rfl,s4⟩
  have hl4:=s4 _ _ hl3
  obtain ⟨vi,hvi⟩:∃ y,xs[i]?=some y:=⟨_,List.getElem?_eq_getElem (by omega)⟩
  refine ⟨_,rfl,_,_,rfl,rfl,_,rfl,_,_,rfl,.inl ⟨_,SqL.of hl4,rfl⟩,_,_,rfl,⟨by omega,by omega,by omega,by omega⟩,yI (lo:=0+(i:Int)+1) (n:=(((xs.length:Nat):Int) - (0+(i:Int)+1)).toNat) (fun j σ1 H'=>∃ (u3:Option V),σ1=[some (.ref r),some (.ref l),some (.int (0+(i:Int))),u3]/\Same H3 H') ⟨_,rfl,s4⟩ ?_ ?_⟩
  ·rintro j σ1 H5 hj ⟨u3,rfl,s5⟩
   have hij:i+1+j < xs.length:=by omega
   obtain ⟨vj,hvj⟩:∃ y,xs[i+1+j]?=some y:=⟨_,List.getElem?_eq_getElem hij⟩
   have hl5:=s5 _ _ hl3
   have al5:=zk al (s03.trans s5)
   obtain ⟨bi,hbi,qi⟩:=Al2.get al5 hvi
   obtain ⟨bj,hbj,qj⟩:=Al2.get al5 hvj
   have atj:atI xs (0+(i:Int)+1+(j:Int))=some vj:=by
    have z:=zr hvj
    rwa [show ((i+1+j:Nat):Int)=0+(i:Int)+1+(j:Int) by omega] at z
   refine ⟨_,rfl,_,rfl,l,_,_,_,rfl,rfl,SqL.of hl5,atI_z hvi,_,rfl,_,rfl,l,_,_,_,rfl,rfl,SqL.of hl5,atj,vi,vj,bi,bj,rfl,qi.mono (by decide),qj.mono (by decide),fun H6 s6=>⟨_,rfl,?_⟩⟩
   have no:=gd.ap i (i+1+j) (by omega) (by omega)
   rw [Zx hbi,Zx hbj] at no
   rw [no]
   exact iteF ⟨_,rfl,s5.trans s6⟩
  ·rintro σ1 H5 ⟨u3,rfl,s5⟩
   exact ⟨_,_,rfl,s5⟩
 ·rintro σ1 H4 ⟨u2,u3,rfl,s4⟩
  exact k H4 (s03.trans s4)
def yQ (K:PySem.W.Frag):Sp:=fun vs H Q _=>∃ m:Nat,vs=[.int (m:Int)]/\m<=40/\Q .non H
theorem sc_refuse_number_of_moments:FnScope ["most"] ["most"] (zD (top 23)):=⟨rfl,rfl,rfl,by decide+kernel,rfl,by decide+kernel,by decide+kernel⟩
theorem ok_refuse_number_of_moments (D:Df K mg "refuse_number_of_moments" (top 23) ["most"]) (T:Tx K mg C) (F_is_whole:Fn P w K mg base 1 "is_whole" ["thing"] (Yn K)):Fn P w K mg base 2 "refuse_number_of_moments" ["most"] (yQ K):=by
 refine D.ok0 sc_refuse_number_of_moments (fun vs H Q E h=>?_) (fun f cdv A outer s H vs Q E hr h=>?_)
 ·obtain ⟨m,rfl,_⟩:=h
  rfl
 obtain ⟨m,rfl,h40,k⟩:=h
 refine ⟨_,(zF (zh (jM (yv (zn (zL F_is_whole (by decide) hr (by rfl) zG (zA (pv 0) zB)) (fun _=>rfl))) (ym (yv (pt_chain Jw Jw zC (pv 0) (zW (by rfl) T.k_MOST_MOMENTS))))).pt (zF jI) zU)),?_⟩
 refine ⟨_,rfl,_,_,true,false,rfl,.int _,yr,yY,_,rfl,?_⟩
 refine iteF ?_
 refine ⟨_,rfl,_,_,rfl,rfl,?_⟩
 refine ⟨_,rfl,?_⟩
 refine zb (fun _=>?_) (fun c=>absurd (show (0:Int)<=(m:Int) by omega) c)
 refine ⟨_,_,rfl,rfl,_,rfl,?_⟩
 exact if_not (fun c=>absurd (show (m:Int)<=40 by omega) c) (fun _=>k)
def sp_run_in (K:PySem.W.Frag):Sp:=fun vs H Q _=>∃ (r x y l:Addr) (R:Rat × Rat) (xs:List V) (gs:List Bq) (m B:Nat),vs=[.ref r,.ref l,.int (m:Int)]/\SqT K H r [.ref x,.ref y]/\FQ K H x R.1/\FQ K H y R.2/\FB 1990 R.1/\FB 1990 R.2/\H l=some (.lst xs)/\Al2 (BqH K 1990 H) xs gs/\GdP R gs/\CmP B R gs/\B+90 * m<=1900/\m<=40/\∀ (t:Addr) (wd:String) (ms:List (Rat × Pr)) (es:List Bq) (last:Rat) (H1:Hp),Same H H1->RunP R gs 0 m wd ms es last->Jo K H H1 t wd ms es last->Q (.ref t) H1
theorem sc_run_in:FnScope ["room","boxes","most"] ["room","boxes","most"] (zD (top 66)):=⟨rfl,rfl,rfl,by decide+kernel,rfl,by decide+kernel,by decide+kernel⟩
theorem ok_run_in (D:Df K mg "run_in" (top 66) ["room","boxes","most"]) (T:Tx K mg C) (F_refuse_boxes:Fn P w K mg base 6 "refuse_boxes" ["room","boxes"] (Zc K)) (F_refuse_number_of_moments:Fn P w K mg base 2 "refuse_number_of_moments" ["most"] (yQ K)) (F_Plane___init__:FnM P w K mg base 7 (C 0) "__init__" ["self","room","boxes"] (spP_init K (C 0))) (F_run_along:Fn P w K mg base 9 "run_along" ["course","most"] (Yt K (C 0))):Fn P w K mg base 10 "run_in" ["room","boxes","most"] (sp_run_in K):=by
 refine D.ok0 sc_run_in (fun vs H Q E h=>?_) (fun f cdv A outer s H vs Q E hr h=>?_)
 ·obtain ⟨r,x,y,l,R,xs,gs,m,B,rfl,_⟩:=h
  rfl
 obtain ⟨r,rx,ry,l,R,xs,gs,m,B,rfl,hr0,gx,gy,fx,fy,hl,al,gd,cm,hB,m40,k⟩:=h
 refine ⟨_,(zE (yJ (zL F_refuse_boxes (by decide) hr (by rfl) zG (zA (pv 0) (zA (pv 1) zB))))
   (zE (yJ (zL F_refuse_number_of_moments (by decide) hr (by rfl) zG (zA (pv 2) zB)))
   (zF (zM (zL F_run_along (by decide) hr (by rfl) zG (zA (pe_mko T.mk_Plane T.kp_Plane F_Plane___init__ (by decide) hr (by rfl) T.c_Plane zG (zA (pv 0) (zA (pv 1) zB))) (zA (pv 2) zB))))))),?_⟩
 refine ⟨_,rfl,_,rfl,r,rx,ry,l,R,xs,gs,rfl,hr0,gx,gy,fx,fy,hl,al,gd,fun H0 s0=>?_⟩
 refine ⟨_,rfl,m,rfl,m40,?_⟩
 refine ⟨_,rfl,_,rfl,?_⟩
 intro x dx nx ndx nex
 obtain ⟨H1,q1⟩:∃ H1,upd (upd H0 dx (.own x)) x (.ins (C 0) dx [])=H1:=⟨_,rfl⟩
 have s1:Same H0 H1:=by
  rw [<- q1]
  intro a o ha
  rw [zX (zI ha nx),zX (zI ha ndx)]
  exact ha
 have e1:H1 x=some (.ins (C 0) dx []):=by rw [<- q1]; exact zq
 dsimp only
 rw [q1]
 clear q1
 have s01:=s0.trans s1
 refine ⟨x,dx,r,rx,ry,l,R,xs,gs,B,rfl,e1,Kw.Same.tup s01 hr0,Kw.Same.tup s01 gx,Kw.Same.tup s01 gy,fx,fy,s01 _ _ hl,zk al s01,gd.l6,cm,by omega,fun wl g j H2 s2 ng nj cr=>⟨rfl,?_⟩⟩
 refine ⟨_,rfl,x,R,gs,wl,g,j,m,B,rfl,cr,gd.l6,gd.wt,cm,hB,m40,fun t wd ms es last H3 s3 rq told=>?_⟩
 refine k t wd ms es last H3 ?_ rq (told.of fun a o ha=>s2 a o (zI (s0 a o ha) nx) (s1 a o (s0 a o ha)))
 have n1:∀ {a:Addr},H1 a=none->H0 a=none:=fun h=>jA s1 h
 intro a o ha
 have ha:=s0 a o ha
 refine s3 a o ?_ (s2 a o (zI ha nx) (s1 a o ha))
 simp only [List.mem_cons,List.not_mem_nil,or_false,not_or]
 exact ⟨zI ha nx,zI ha (n1 ng),zI ha (n1 nj)⟩
theorem sc_law_cell:FnScope ["script","k"] ["script","k"] (zD (top 68)):=⟨rfl,rfl,rfl,by decide+kernel,rfl,by decide+kernel,by decide+kernel⟩
theorem ok_law_cell (D:Df K mg "_law_cell" (top 68) ["script","k"]) (T:Tx K mg C):Fn P w K mg base 1 "_law_cell" ["script","k"] (spCell K):=by
 refine D.ok0 sc_law_cell (fun vs H Q E h=>?_) (fun f cdv A outer s H vs Q E hr h=>?_)
 ·obtain ⟨a,k,rfl,_⟩:=h
  rfl
 obtain ⟨a,k,rfl,⟨ns,hS,h63,hbd⟩,k0,k1,q⟩:=h
 refine ⟨_,(zE (zh (zQ Yh (pv 1) (zV yG (by rfl) T.b_len PyProof.Rows.Boot.«len» (zA (pv 0) zB)) (zS _)) (zF (zM (zH ix_list (pv 0) (pv 1) (fun _ _=>rfl)))) zU)
   (zF (zM (zO zj (zO zc zC (pv 1)) zC)))),?_⟩
 refine ⟨_,rfl,_,rfl,_,_,rfl,.inl ⟨_,hS,rfl⟩,_,_,rfl,rfl,_,rfl,?_⟩
 refine zb (fun c=>?_) (fun c=>?_)
 ·rw [List.length_map] at c
  have hk:k.toNat < ns.length:=by omega
  have ek:k=((k.toNat:Nat):Int):=by omega
  have z:atI (ns.map V.int) ((k.toNat:Nat):Int)=some (.int ns[k.toNat]):=zr (by rw [List.getElem?_map,List.getElem?_eq_getElem hk]<;>rfl)
  rw [<- ek] at z
  exact ⟨_,rfl,_,rfl,a,_,_,_,rfl,rfl,hS,z,q _ (hbd _ (List.getElem_mem hk))⟩
 ·refine ⟨_,rfl,_,_,rfl,rfl,ZJ (by decide) (by decide),_,_,rfl,rfl,q _ ?_⟩
  exact (Bd.small (by omega) (by omega)).mono (by decide)
theorem YH:FnScope ["cell","k","number"] ["cell","k"] (zD (top 69)):=⟨rfl,rfl,rfl,by decide+kernel,rfl,by decide+kernel,by decide+kernel⟩
theorem ok_law_mix (D:Df K mg "_law_mix" (top 69) ["cell","k"]) (T:Tx K mg C):Fn P w K mg base 1 "_law_mix" ["cell","k"] spMix:=by
 refine D.ok0 YH (fun vs H Q E h=>?_) (fun f cdv A outer s H vs Q E hr h=>?_)
 ·obtain ⟨c,k,rfl,_⟩:=h
  rfl
 obtain ⟨c,k,rfl,hc,k0,k1,q⟩:=h
 refine ⟨_,(zE (zN (i:=2) YH.nd rfl (Or.inl rfl) (zO zj (zO zc (zO zj (pv 0) zC) zC) (zO zc zC (pv 1))))
   (zE (zN (i:=2) YH.nd rfl (Or.inl rfl) (zO zj (zO op_mod (zO zc (pv 2) (pv 2)) zC) (pv 1)))
   (zF (zM (zO op_mod (zO zc (pv 2) (zO zj (pv 2) zC)) zC))))),?_⟩
 have s1:∀ i:Int,-(2 ^ 64) < i->i < 2 ^ 64->Bd 1048576 i:=fun i h1 h2=>(Bd.small h1 h2).mono (by decide)
 have b1:Bd 1048641 ((c+1) * 40692):=((hc.add (s1 1 (by decide) (by decide))).mul (Bd.small (i:=40692) (by decide) (by decide))).mono (by decide)
 have b2:Bd 1048642 ((c+1) * 40692+104729 * k):=(b1.add ((Bd.small (by omega) (by omega)).mono (by decide))).mono (by decide)
 refine ⟨_,rfl,_,_,rfl,rfl,_,_,rfl,rfl,JG (by decide) (by decide),_,rfl,_,_,rfl,rfl,ZJ (by decide) (by decide),_,_,rfl,rfl,?_⟩
 refine ⟨_,rfl,_,rfl,_,_,rfl,rfl,b2.ok b2 (by decide),_,_,rfl,rfl,(by show (0:Int) < 2147483399; decide),_,rfl,_,_,rfl,rfl,?_⟩
 have e0:=Int.emod_nonneg (((c+1) * 40692+104729 * k) * ((c+1) * 40692+104729 * k)) (show (2147483399:Int)≠0 by decide)
 have e1:=Int.emod_lt_of_pos (((c+1) * 40692+104729 * k) * ((c+1) * 40692+104729 * k)) (show (0:Int) < 2147483399 by decide)
 exact ⟨_,rfl,_,rfl,_,_,rfl,rfl,_,_,rfl,rfl,ZJ (by omega) (by omega),_,_,rfl,rfl,(by show (0:Int) < 2147483563; decide),q _⟩
theorem jS:FnScope ["script","k","here","number","j"] ["script","k"] (zD (top 70)):=⟨rfl,rfl,rfl,by decide+kernel,rfl,by decide+kernel,by decide+kernel⟩
theorem ok_law_box (D:Df K mg "_law_box" (top 70) ["script","k"]) (T:Tx K mg C) (F_law_cell:Fn P w K mg base 1 "_law_cell" ["script","k"] (spCell K)) (F_law_mix:Fn P w K mg base 1 "_law_mix" ["cell","k"] spMix) :
  Fn P w K mg base 2 "_law_box" ["script","k"] (spBox K):=by
 refine D.ok0 jS (fun vs H Q E h=>?_) (fun f cdv A outer s H vs Q E hr h=>?_)
 ·obtain ⟨a,k,rfl,_⟩:=h
  rfl
 obtain ⟨a,k,rfl,hS,k0,k1,q⟩:=h
 refine ⟨_,(zE (zN (i:=2) jS.nd rfl (Or.inl rfl) (zL F_law_cell (by decide) hr (by rfl) zG (zA (pv 0) (zA (pv 1) zB))))
   (zE (zh (zQ ZB (zO op_mod (pv 2) zC) zC (zS _)) (zF (zM (zv (zA (zO z7 (pv 2) zC) zB)))) zU)
   (zE (zN (i:=3) jS.nd rfl (Or.inl rfl) zC)
   (zE (yF PassesOwn.never rfl (yL (by rfl) T.b_range (zA zC zB)) (za (i:=4) jS.nd rfl (Or.inl rfl)) (zF (zN (i:=3) jS.nd rfl (Or.inl rfl) (zO zj (zO zc (pv 3) zC) (zL F_law_mix (by decide) hr (by rfl) zG (zA (pv 2) (zA (pv 4) zB)))))))
   (zF (zM (zv (zA (pv 3) zB)))))))),?_⟩
 refine ⟨_,rfl,_,rfl,a,k,rfl,hS,k0,k1,fun c hc=>?_⟩
 refine ⟨_,rfl,_,_,rfl,rfl,(by show (0:Int) < 2; decide),rfl,_,rfl,?_⟩
 refine jD (fun z=>?_) (fun z=>?_)
 ·refine ⟨_,rfl,_,_,rfl,rfl,⟨by decide,by decide+kernel⟩,(by show 1<=sizeLine; decide),fun p hp=>?_⟩
  exact q p _ _ hp (Zh hp _) zq
 refine ⟨_,rfl,by decide,by decide,yI (n:=16) (fun i σ' H'=>∃ (n:Int) (r:Option V),σ'=[some (.ref a),some (.int k),some (.int c),some (.int n),r]/\H'=H) ⟨_,_,rfl,rfl⟩ ?_ ?_⟩
 ·rintro i σ' H' hi ⟨n,r,rfl,rfl⟩
  refine ⟨_,rfl,_,_,rfl,rfl,JG (by decide) (by decide),_,rfl,_,rfl,c,_,rfl,hc,by omega,by omega,fun m=>?_⟩
  exact ⟨_,_,rfl,rfl,_,_,rfl,rfl⟩
 ·rintro σ' H' ⟨n,r,rfl,rfl⟩
  refine ⟨_,rfl,(by show 1<=sizeLine; decide),fun p hp=>?_⟩
  exact q p _ _ hp (Zh hp _) zq
theorem Zk:FnScope ["box","many","left","digit"] ["box","many"] (zD (top 71)):=⟨rfl,rfl,rfl,by decide+kernel,rfl,by decide+kernel,by decide+kernel⟩
theorem ok_law_take (D:Df K mg "_law_take" (top 71) ["box","many"]) (T:Tx K mg C):Fn P w K mg base 1 "_law_take" ["box","many"] spTake:=by
 refine D.ok0 Zk (fun vs H Q E h=>?_) (fun f cdv A outer s H vs Q E hr h=>?_)
 ·obtain ⟨b,m,n,rfl,_⟩:=h
  rfl
 obtain ⟨b,m,n,rfl,hb,m0,hm,q⟩:=h
 refine ⟨_,(zE (YK (zV call_divmodB (by rfl) T.b_divmod PyProof.Rows.Boot.«divmod» (zA (zH ix_list (pv 0) zC (fun _ _=>rfl)) (zA (pv 1) zB))) (pg_tup rfl (ye (za (i:=2) Zk.nd rfl (Or.inl rfl)) (ye (za (i:=3) Zk.nd rfl (Or.inl rfl)) pgs_nil))))
   (zE (YK (pv 2) (Y0 (pv 0) zC j2))
   (zF (zM (pv 3))))),?_⟩
 refine ⟨_,rfl,b,_,_,_,rfl,rfl,SqL.of hb,rfl,_,rfl,n,m,rfl,⟨m0,hm.log⟩,?_⟩
 intro p hp0
 have sm:=Zh hp0 (.tup [.int (n / m),.int (n % m)])
 have hp:upd H p (.tup [.int (n / m),.int (n % m)]) p=some (.tup [.int (n / m),.int (n % m)]):=zq
 refine ⟨p,_,rfl,SqT.of hp,rfl,_,_,rfl,_,_,rfl,rfl,?_⟩
 refine ⟨_,rfl,_,rfl,b,_,_,0,rfl,rfl,sm _ _ hb,rfl,_,rfl,?_⟩
 have d0:=Int.emod_nonneg n (show m≠0 by omega)
 have d1:=Int.emod_lt_of_pos n m0
 exact q (n % m) (n / m) _ d0 d1 ((But.of sm).trans (but_upd _)) zq
theorem ZG:FnScope ["top","bottom","one","other"] ["top","bottom"] (zD (top 72)):=⟨rfl,rfl,rfl,by decide+kernel,rfl,by decide+kernel,by decide+kernel⟩
theorem ok_law_fit0 (D:Df K mg "_law_fit" (top 72) ["top","bottom"]) (T:Tx K mg C):Fn P w K mg base 1 "_law_fit" ["top","bottom"] spFit:=by
 refine D.ok0 ZG (fun vs H Q E h=>?_) (fun f cdv A outer s H vs Q E hr h=>?_)
 ·obtain ⟨a,b,rfl,_⟩:=h
  rfl
 obtain ⟨a,b,rfl,c,hb,hq⟩:=h
 refine ⟨_,(zE (ps_par (i:=2) (j:=3) rfl ZG.nd rfl rfl (by decide) rfl rfl (zA (zV Zq (by rfl) T.b_abs PyProof.Rows.Boot.«abs» (zA (pv 0) zB)) (zA (zV Zq (by rfl) T.b_abs PyProof.Rows.Boot.«abs» (zA (pv 1) zB)) zB)) rfl)
   (zE (Zv PassesOwn.never (zQ op_gt (pv 3) zC (zS _)) (zF (ps_par (i:=2) (j:=3) rfl ZG.nd rfl rfl (by decide) rfl rfl (zA (pv 3) (zA (zO op_mod (pv 2) (pv 3)) zB)) rfl)))
   (zE (zh (zQ Yh (pv 1) zC (zS _)) (zF (zN (i:=2) ZG.nd rfl (Or.inl rfl) (zO Zu zC (pv 2)))) zU)
   (zF (zM (zR (zA (zO z7 (pv 0) (pv 2)) (zA (zO z7 (pv 1) (pv 2)) zB)))))))),?_⟩
 refine ⟨_,rfl,_,rfl,_,rfl,_,rfl,_,_,rfl,?_⟩
 refine ⟨fun m σ' H'=>∃ g s:Int,σ'=[some (.int a),some (.int b),some (.int g),some (.int s)]/\H'=H/\0<=g/\0<=s/\m=s.toNat/\Int.gcd g s=Int.gcd a b,⟨_,_,_,rfl,rfl,abs_nn a,abs_nn b,rfl,gcd_abs a b⟩,?_⟩
 rintro m σ' H' ⟨g,s,rfl,rfl,hg,hs,rfl,e⟩
 refine ⟨_,rfl,_,_,rfl,rfl,_,rfl,?_⟩
 refine zb (fun c=>?_) (fun z=>?_)
 ·refine ⟨_,fun _ _ n=>n,?_⟩
  refine ⟨_,rfl,_,rfl,_,rfl,_,_,rfl,rfl,c,_,_,rfl,?_⟩
  have l:=Int.emod_lt_of_pos g c
  have l0:=Int.emod_nonneg g (show s≠0 by omega)
  exact ⟨_,by omega,s,g % s,rfl,rfl,by omega,l0,rfl,(gcd_step g s hg c).trans e⟩
 ·have s0:s=0:=by omega
  subst s0
  have z:=gcd_end g hg
  rw [e] at z
  subst z
  have hd:(if b < 0 then -((Int.gcd a b:Nat):Int) else ((Int.gcd a b:Nat):Int))=dv a b:=rfl
  have lg:=(bd_dv (t:=a) c hb).log
  refine ⟨_,rfl,_,_,rfl,rfl,_,rfl,?_⟩
  refine zb (fun n=>?_) (fun n=>?_)
  ·rw [if_pos n] at hd
   refine ⟨_,rfl,_,_,rfl,rfl,?_⟩
   dsimp only
   rw [show (0:Int) - ((Int.gcd a b:Nat):Int)=dv a b by rw [<- hd]; omega]
   refine ⟨_,rfl,_,rfl,_,_,rfl,rfl,⟨ZX c,lg⟩,_,rfl,_,rfl,_,_,rfl,rfl,⟨ZX c,lg⟩,by show 2<=sizeLine; decide,?_⟩
   exact JC fun p H' sm hp=>hq p H' sm hp
  ·rw [if_neg n] at hd
   rw [hd]
   refine ⟨_,rfl,_,rfl,_,_,rfl,rfl,⟨ZX c,lg⟩,_,rfl,_,rfl,_,_,rfl,rfl,⟨ZX c,lg⟩,by show 2<=sizeLine; decide,?_⟩
   exact JC fun p H' sm hp=>hq p H' sm hp
def yk (K:PySem.W.Frag):Sp:=fun vs H Q _=>∃ (a:Int) (b:Int),vs=[.int a,.int b]/\Bd 9000 b/\b≠0/\(∀ (p_r:Addr) (H1:Hp),Same H H1->FQ K H1 p_r (Rat.divInt a b)->Q (.ref p_r) H1)
theorem ok_law_fit (D:Df K mg "_law_fit" (top 72) ["top","bottom"]) (T:Tx K mg C):Fn P w K mg base 1 "_law_fit" ["top","bottom"] (yk K):=
 (ok_law_fit0 D T).imp fun vs H Q E h=>by
  obtain ⟨a,b,rfl,hb,b0,k⟩:=h
  exact ⟨a,b,rfl,b0,hb,fun p H' s e=>k p H' s (FQ.fit b0 (SqT.of e))⟩
def Zr (K:PySem.W.Frag):Sp:=fun vs H Q _=>∃ (p_x:Addr) (x:Rat) (p_y:Addr) (y:Rat),vs=[.ref p_x,.ref p_y]/\FQ K H p_x x/\FB 4400 x/\FQ K H p_y y/\FB 4400 y/\(∀ (p_r:Addr) (H1:Hp),Same H H1->FQ K H1 p_r (x+y)->Q (.ref p_r) H1)
theorem sc_law_plus:FnScope ["one","other"] ["one","other"] (zD (top 73)):=⟨rfl,rfl,rfl,by decide+kernel,rfl,by decide+kernel,by decide+kernel⟩
theorem ok_law_plus (D:Df K mg "_law_plus" (top 73) ["one","other"]) (T:Tx K mg C) (F_law_fit:Fn P w K mg base 1 "_law_fit" ["top","bottom"] (yk K)):Fn P w K mg base 2 "_law_plus" ["one","other"] (Zr K):=by
 refine D.ok0 sc_law_plus (fun vs H Q E h=>?_) (fun f cdv A outer s H vs Q E hr h=>?_)
 ·obtain ⟨p_x,x,p_y,y,rfl,_⟩:=h
  rfl
 obtain ⟨p_x,x,p_y,y,rfl,g_x,d_x,g_y,d_y,k0⟩:=h
 refine ⟨_,(zF (zM (zL F_law_fit (by decide) hr (by rfl) zG (zA (zO zj (zO zc (zH ix_tup (pv 0) zC (fun _ _=>rfl)) (zH ix_tup (pv 1) zC (fun _ _=>rfl))) (zO zc (zH ix_tup (pv 1) zC (fun _ _=>rfl)) (zH ix_tup (pv 0) zC (fun _ _=>rfl)))) (zA (zO zc (zH ix_tup (pv 0) zC (fun _ _=>rfl)) (zH ix_tup (pv 1) zC (fun _ _=>rfl))) zB))))),?_⟩
 refine ⟨_,rfl,p_x,_,_,_,rfl,rfl,g_x,rfl,_,rfl,p_y,_,_,_,rfl,rfl,g_y,rfl,_,_,rfl,rfl,(d_x.1.ok d_y.2 (by decide)),_,rfl,p_y,_,_,_,rfl,rfl,g_y,rfl,_,rfl,p_x,_,_,_,rfl,rfl,g_x,rfl,_,_,rfl,rfl,(d_y.1.ok d_x.2 (by decide)),_,_,rfl,rfl,_,rfl,p_x,_,_,_,rfl,rfl,g_x,rfl,_,rfl,p_y,_,_,_,rfl,rfl,g_y,rfl,_,_,rfl,rfl,(d_x.2.ok d_y.2 (by decide)),_,_,rfl,((Bd.mul d_x.2 d_y.2).mono (by decide)),(by exact Int.mul_ne_zero (q_ne _) (q_ne _)),fun p_r13 H13 s13 g_r13=>?_⟩
 have d_r13:FB 8801 (Rat.divInt ((((x).num * (((y).den:Nat):Int))+((y).num * (((x).den:Nat):Int)))) (((((x).den:Nat):Int) * (((y).den:Nat):Int)))):=(FB.mono (FB.fit (by exact Int.mul_ne_zero (q_ne _) (q_ne _)) ((Bd.add ((Bd.mul d_x.1 d_y.2).mono (n:=8800) (by decide)) ((Bd.mul d_y.1 d_x.2).mono (n:=8800) (by decide))).mono (n:=8801) (by decide)) ((Bd.mul d_x.2 d_y.2).mono (n:=8801) (by decide))) (by decide))
 have e14:((Rat.divInt ((((x).num * (((y).den:Nat):Int))+((y).num * (((x).den:Nat):Int)))) (((((x).den:Nat):Int) * (((y).den:Nat):Int)))):Rat)=x+y:=by exact q_add x y
 exact k0 _ _ s13 (FQ.cast g_r13 e14)
def jO (K:PySem.W.Frag):Sp:=fun vs H Q _=>∃ (p_x:Addr) (x:Rat) (p_y:Addr) (y:Rat),vs=[.ref p_x,.ref p_y]/\FQ K H p_x x/\FB 4400 x/\FQ K H p_y y/\FB 4400 y/\(∀ (p_r:Addr) (H1:Hp),Same H H1->FQ K H1 p_r (x - y)->Q (.ref p_r) H1)
theorem sc_law_minus:FnScope ["one","other"] ["one","other"] (zD (top 74)):=⟨rfl,rfl,rfl,by decide+kernel,rfl,by decide+kernel,by decide+kernel⟩
theorem ok_law_minus (D:Df K mg "_law_minus" (top 74) ["one","other"]) (T:Tx K mg C) (F_law_fit:Fn P w K mg base 1 "_law_fit" ["top","bottom"] (yk K)):Fn P w K mg base 2 "_law_minus" ["one","other"] (jO K):=by
 refine D.ok0 sc_law_minus (fun vs H Q E h=>?_) (fun f cdv A outer s H vs Q E hr h=>?_)
 ·obtain ⟨p_x,x,p_y,y,rfl,_⟩:=h
  rfl
 obtain ⟨p_x,x,p_y,y,rfl,g_x,d_x,g_y,d_y,k0⟩:=h
 refine ⟨_,(zF (zM (zL F_law_fit (by decide) hr (by rfl) zG (zA (zO Zu (zO zc (zH ix_tup (pv 0) zC (fun _ _=>rfl)) (zH ix_tup (pv 1) zC (fun _ _=>rfl))) (zO zc (zH ix_tup (pv 1) zC (fun _ _=>rfl)) (zH ix_tup (pv 0) zC (fun _ _=>rfl)))) (zA (zO zc (zH ix_tup (pv 0) zC (fun _ _=>rfl)) (zH ix_tup (pv 1) zC (fun _ _=>rfl))) zB))))),?_⟩
 refine ⟨_,rfl,p_x,_,_,_,rfl,rfl,g_x,rfl,_,rfl,p_y,_,_,_,rfl,rfl,g_y,rfl,_,_,rfl,rfl,(d_x.1.ok d_y.2 (by decide)),_,rfl,p_y,_,_,_,rfl,rfl,g_y,rfl,_,rfl,p_x,_,_,_,rfl,rfl,g_x,rfl,_,_,rfl,rfl,(d_y.1.ok d_x.2 (by decide)),_,_,rfl,rfl,_,rfl,p_x,_,_,_,rfl,rfl,g_x,rfl,_,rfl,p_y,_,_,_,rfl,rfl,g_y,rfl,_,_,rfl,rfl,(d_x.2.ok d_y.2 (by decide)),_,_,rfl,((Bd.mul d_x.2 d_y.2).mono (by decide)),(by exact Int.mul_ne_zero (q_ne _) (q_ne _)),fun p_r15 H15 s15 g_r15=>?_⟩
 have d_r15:FB 8801 (Rat.divInt ((((x).num * (((y).den:Nat):Int)) - ((y).num * (((x).den:Nat):Int)))) (((((x).den:Nat):Int) * (((y).den:Nat):Int)))):=(FB.mono (FB.fit (by exact Int.mul_ne_zero (q_ne _) (q_ne _)) ((Bd.sub ((Bd.mul d_x.1 d_y.2).mono (n:=8800) (by decide)) ((Bd.mul d_y.1 d_x.2).mono (n:=8800) (by decide))).mono (n:=8801) (by decide)) ((Bd.mul d_x.2 d_y.2).mono (n:=8801) (by decide))) (by decide))
 have e16:((Rat.divInt ((((x).num * (((y).den:Nat):Int)) - ((y).num * (((x).den:Nat):Int)))) (((((x).den:Nat):Int) * (((y).den:Nat):Int)))):Rat)=x - y:=by exact q_sub x y
 exact k0 _ _ s15 (FQ.cast g_r15 e16)
def ZI (K:PySem.W.Frag):Sp:=fun vs H Q _=>∃ (p_x:Addr) (x:Rat) (p_y:Addr) (y:Rat),vs=[.ref p_x,.ref p_y]/\FQ K H p_x x/\FB 4400 x/\FQ K H p_y y/\FB 4400 y/\(∀ (p_r:Addr) (H1:Hp),Same H H1->FQ K H1 p_r (x * y)->Q (.ref p_r) H1)
theorem sc_law_times:FnScope ["one","other"] ["one","other"] (zD (top 75)):=⟨rfl,rfl,rfl,by decide+kernel,rfl,by decide+kernel,by decide+kernel⟩
theorem ok_law_times (D:Df K mg "_law_times" (top 75) ["one","other"]) (T:Tx K mg C) (F_law_fit:Fn P w K mg base 1 "_law_fit" ["top","bottom"] (yk K)):Fn P w K mg base 2 "_law_times" ["one","other"] (ZI K):=by
 refine D.ok0 sc_law_times (fun vs H Q E h=>?_) (fun f cdv A outer s H vs Q E hr h=>?_)
 ·obtain ⟨p_x,x,p_y,y,rfl,_⟩:=h
  rfl
 obtain ⟨p_x,x,p_y,y,rfl,g_x,d_x,g_y,d_y,k0⟩:=h
 refine ⟨_,(zF (zM (zL F_law_fit (by decide) hr (by rfl) zG (zA (zO zc (zH ix_tup (pv 0) zC (fun _ _=>rfl)) (zH ix_tup (pv 1) zC (fun _ _=>rfl))) (zA (zO zc (zH ix_tup (pv 0) zC (fun _ _=>rfl)) (zH ix_tup (pv 1) zC (fun _ _=>rfl))) zB))))),?_⟩
 refine ⟨_,rfl,p_x,_,_,_,rfl,rfl,g_x,rfl,_,rfl,p_y,_,_,_,rfl,rfl,g_y,rfl,_,_,rfl,rfl,(d_x.1.ok d_y.1 (by decide)),_,rfl,p_x,_,_,_,rfl,rfl,g_x,rfl,_,rfl,p_y,_,_,_,rfl,rfl,g_y,rfl,_,_,rfl,rfl,(d_x.2.ok d_y.2 (by decide)),_,_,rfl,((Bd.mul d_x.2 d_y.2).mono (by decide)),(by exact Int.mul_ne_zero (q_ne _) (q_ne _)),fun p_r17 H17 s17 g_r17=>?_⟩
 have d_r17:FB 8800 (Rat.divInt (((x).num * (y).num)) (((((x).den:Nat):Int) * (((y).den:Nat):Int)))):=(FB.mono (FB.fit (by exact Int.mul_ne_zero (q_ne _) (q_ne _)) ((Bd.mul d_x.1 d_y.1).mono (n:=8800) (by decide)) ((Bd.mul d_x.2 d_y.2).mono (n:=8800) (by decide))) (by decide))
 have e18:((Rat.divInt (((x).num * (y).num)) (((((x).den:Nat):Int) * (((y).den:Nat):Int)))):Rat)=x * y:=by exact q_mul x y
 exact k0 _ _ s17 (FQ.cast g_r17 e18)
def jk (K:PySem.W.Frag):Sp:=fun vs H Q _=>∃ (p_x:Addr) (x:Rat) (p_y:Addr) (y:Rat),vs=[.ref p_x,.ref p_y]/\FQ K H p_x x/\FB 4400 x/\FQ K H p_y y/\FB 4400 y/\y≠0/\(∀ (p_r:Addr) (H1:Hp),Same H H1->FQ K H1 p_r (x / y)->Q (.ref p_r) H1)
theorem sc_law_over:FnScope ["one","other"] ["one","other"] (zD (top 76)):=⟨rfl,rfl,rfl,by decide+kernel,rfl,by decide+kernel,by decide+kernel⟩
theorem ok_law_over (D:Df K mg "_law_over" (top 76) ["one","other"]) (T:Tx K mg C) (F_law_fit:Fn P w K mg base 1 "_law_fit" ["top","bottom"] (yk K)):Fn P w K mg base 2 "_law_over" ["one","other"] (jk K):=by
 refine D.ok0 sc_law_over (fun vs H Q E h=>?_) (fun f cdv A outer s H vs Q E hr h=>?_)
 ·obtain ⟨p_x,x,p_y,y,rfl,_⟩:=h
  rfl
 obtain ⟨p_x,x,p_y,y,rfl,g_x,d_x,g_y,d_y,pr0,k0⟩:=h
 refine ⟨_,(zF (zM (zL F_law_fit (by decide) hr (by rfl) zG (zA (zO zc (zH ix_tup (pv 0) zC (fun _ _=>rfl)) (zH ix_tup (pv 1) zC (fun _ _=>rfl))) (zA (zO zc (zH ix_tup (pv 0) zC (fun _ _=>rfl)) (zH ix_tup (pv 1) zC (fun _ _=>rfl))) zB))))),?_⟩
 refine ⟨_,rfl,p_x,_,_,_,rfl,rfl,g_x,rfl,_,rfl,p_y,_,_,_,rfl,rfl,g_y,rfl,_,_,rfl,rfl,(d_x.1.ok d_y.2 (by decide)),_,rfl,p_x,_,_,_,rfl,rfl,g_x,rfl,_,rfl,p_y,_,_,_,rfl,rfl,g_y,rfl,_,_,rfl,rfl,(d_x.2.ok d_y.1 (by decide)),_,_,rfl,((Bd.mul d_x.2 d_y.1).mono (by decide)),(by exact Int.mul_ne_zero (q_ne _) (Zp pr0)),fun p_r19 H19 s19 g_r19=>?_⟩
 have d_r19:FB 8800 (Rat.divInt (((x).num * (((y).den:Nat):Int))) (((((x).den:Nat):Int) * (y).num))):=(FB.mono (FB.fit (by exact Int.mul_ne_zero (q_ne _) (Zp pr0)) ((Bd.mul d_x.1 d_y.2).mono (n:=8800) (by decide)) ((Bd.mul d_x.2 d_y.1).mono (n:=8800) (by decide))) (by decide))
 have e20:((Rat.divInt (((x).num * (((y).den:Nat):Int))) (((((x).den:Nat):Int) * (y).num))):Rat)=x / y:=by exact q_div x y
 exact k0 _ _ s19 (FQ.cast g_r19 e20)
def Zs (K:PySem.W.Frag):Sp:=fun vs H Q _=>∃ (p_x:Addr) (x:Rat) (p_y:Addr) (y:Rat),vs=[.ref p_x,.ref p_y]/\FQ K H p_x x/\FB 60000 x/\FQ K H p_y y/\FB 60000 y/\(∀ (H1:Hp),Same H H1->Q (.bl (decide (x < y))) H1)
theorem sc_law_less:FnScope ["one","other"] ["one","other"] (zD (top 77)):=⟨rfl,rfl,rfl,by decide+kernel,rfl,by decide+kernel,by decide+kernel⟩
theorem ok_law_less (D:Df K mg "_law_less" (top 77) ["one","other"]) (T:Tx K mg C):Fn P w K mg base 1 "_law_less" ["one","other"] (Zs K):=by
 refine D.ok0 sc_law_less (fun vs H Q E h=>?_) (fun f cdv A outer s H vs Q E hr h=>?_)
 ·obtain ⟨p_x,x,p_y,y,rfl,_⟩:=h
  rfl
 obtain ⟨p_x,x,p_y,y,rfl,g_x,d_x,g_y,d_y,k0⟩:=h
 refine ⟨_,(zF (zM (yg Yh (zO zc (zH ix_tup (pv 0) zC (fun _ _=>rfl)) (zH ix_tup (pv 1) zC (fun _ _=>rfl))) (zO zc (zH ix_tup (pv 1) zC (fun _ _=>rfl)) (zH ix_tup (pv 0) zC (fun _ _=>rfl))) (zS _)))),?_⟩
 refine ⟨_,rfl,p_x,_,_,_,rfl,rfl,g_x,rfl,_,rfl,p_y,_,_,_,rfl,rfl,g_y,rfl,_,_,rfl,rfl,(d_x.1.ok d_y.2 (by decide)),_,rfl,p_y,_,_,_,rfl,rfl,g_y,rfl,_,rfl,p_x,_,_,_,rfl,rfl,g_x,rfl,_,_,rfl,rfl,(d_y.1.ok d_x.2 (by decide)),_,_,rfl,rfl,?_⟩
 try dsimp only
 rw [show decide (((x).num * (((y).den:Nat):Int)) < ((y).num * (((x).den:Nat):Int)))=decide (x < y) from decide_eq_decide.mpr (by exact (q_lt x y).symm)]
 exact k0 _ (Same.refl _)
def JM (K:PySem.W.Frag):Sp:=fun vs H Q _=>∃ b n,vs=[.ref b]/\H b=some (.lst [.int n])/\∀ (rp r0 r1:Addr) (R:Rat × Rat) (H':Hp) (n':Int),But b H H'->H' b=some (.lst [.int n'])->SqT K H' rp [.ref r0,.ref r1]->FQ K H' r0 R.1->FQ K H' r1 R.2->RmQ R->Q (.ref rp) H'
theorem sc_law_room:FnScope ["box"] ["box"] (zD (top 78)):=⟨rfl,rfl,rfl,by decide+kernel,rfl,by decide+kernel,by decide+kernel⟩
theorem ok_law_room (D:Df K mg "_law_room" (top 78) ["box"]) (T:Tx K mg C) (F_law_take:Fn P w K mg base 1 "_law_take" ["box","many"] spTake) (F_law_fit:Fn P w K mg base 1 "_law_fit" ["top","bottom"] (yk K)):Fn P w K mg base 2 "_law_room" ["box"] (JM K):=by
 refine D.ok0 sc_law_room (fun vs H Q E h=>?_) (fun f cdv A outer s H vs Q E hr h=>?_)
 ·obtain ⟨b,n,rfl,_⟩:=h
  rfl
 obtain ⟨b,n,rfl,hb,q⟩:=h
 refine ⟨_,(zE (zh (zQ ZB (zL F_law_take (by decide) hr (by rfl) zG (zA (pv 0) (zA zC zB))) zC (zS _)) (zF (zM (zR (zA (zR (zA (zO zj zC (zL F_law_take (by decide) hr (by rfl) zG (zA (pv 0) (zA zC zB)))) (zA zC zB))) (zA (zR (zA (zO zj zC (zL F_law_take (by decide) hr (by rfl) zG (zA (pv 0) (zA zC zB)))) (zA zC zB))) zB))))) zU)
   (zF (zM (zR (zA (zL F_law_fit (by decide) hr (by rfl) zG (zA (zO zj zC (zL F_law_take (by decide) hr (by rfl) zG (zA (pv 0) (zA zC zB)))) (zA zC zB))) (zA (zL F_law_fit (by decide) hr (by rfl) zG (zA (zO zj zC (zL F_law_take (by decide) hr (by rfl) zG (zA (pv 0) (zA zC zB)))) (zA zC zB))) zB)))))),?_⟩
 have sm9:∀ i:Int,-(2 ^ 64) < i->i < 2 ^ 64->Bd 9000 i:=fun i h1 h2=>(Bd.small h1 h2).mono (by decide)
 refine ⟨_,rfl,b,2,n,rfl,hb,by decide,sm9 _ (by decide) (by decide),fun d1 n1 H1 u1 v1 s1 hb1=>⟨rfl,_,rfl,?_⟩⟩
 refine jD (fun c=>?_) (fun c=>?_)
 ·refine ⟨_,rfl,b,7,n1,rfl,hb1,by decide,sm9 _ (by decide) (by decide),fun d2 n2 H2 u2 v2 s2 hb2=>?_⟩
  refine ⟨_,_,rfl,rfl,by show 2<=sizeLine; decide,?_⟩
  intro p3 n3
  obtain ⟨H3,q3,s3,e3⟩:=newO n3 (.tup [.int (6+d2),.int 1])
  rw [q3]
  clear q3
  refine ⟨_,rfl,b,7,n2,rfl,s3 _ _ hb2,by decide,sm9 _ (by decide) (by decide),fun d4 n4 H4 u4 v4 s4 hb4=>?_⟩
  refine ⟨_,_,rfl,rfl,by show 2<=sizeLine; decide,?_⟩
  intro p5 n5
  obtain ⟨H5,q5,s5,e5⟩:=newO n5 (.tup [.int (4+d4),.int 1])
  rw [q5]
  clear q5
  refine ⟨by show 2<=sizeLine; decide,?_⟩
  intro p6 n6
  obtain ⟨H6,q6,s6,e6⟩:=newO n6 (.tup [.ref p3,.ref p5])
  rw [q6]
  clear q6
  have f3:FQ K H3 p3 ((6+d2:Int):Rat):=SqT.of e3
  have f5:FQ K H5 p5 ((4+d4:Int):Rat):=SqT.of e5
  exact q p6 p3 p5 (((6+d2:Int):Rat),((4+d4:Int):Rat)) H6 n4 (s1.trans (s2.trans ((But.of s3).trans (s4.trans (But.of (s5.trans s6)))))) (s6 _ _ (s5 _ _ hb4)) (SqT.of e6) (Kw.Same.tup (s5.trans s6) (s4.tup (s3 _ _ hb2) f3)) (Kw.Same.tup s6 f5) (rm_int (by omega) (by omega) (by omega) (by omega))
 ·refine ⟨_,rfl,b,60,n1,rfl,hb1,by decide,sm9 _ (by decide) (by decide),fun d2 n2 H2 u2 v2 s2 hb2=>?_⟩
  refine ⟨_,_,rfl,rfl,_,_,rfl,sm9 _ (by decide) (by decide),by decide,fun p3 H3 s3 f3=>?_⟩
  refine ⟨_,rfl,b,60,n2,rfl,s3 _ _ hb2,by decide,sm9 _ (by decide) (by decide),fun d4 n4 H4 u4 v4 s4 hb4=>?_⟩
  refine ⟨_,_,rfl,rfl,_,_,rfl,sm9 _ (by decide) (by decide),by decide,fun p5 H5 s5 f5=>?_⟩
  refine ⟨by show 2<=sizeLine; decide,?_⟩
  intro p6 n6
  obtain ⟨H6,q6,s6,e6⟩:=newO n6 (.tup [.ref p3,.ref p5])
  rw [q6]
  clear q6
  exact q p6 p3 p5 (Rat.divInt (40+d2) 7,Rat.divInt (30+d4) 7) H6 n4 (s1.trans (s2.trans ((But.of s3).trans (s4.trans (But.of (s5.trans s6)))))) (s6 _ _ (s5 _ _ hb4)) (SqT.of e6) (Kw.Same.tup (s5.trans s6) (s4.tup (s3 _ _ hb2) f3)) (Kw.Same.tup s6 f5) (rm_sev (by omega) (by omega) (by omega) (by omega))
def YX (K:PySem.W.Frag):Sp:=fun vs H Q _=>∃ (rp r0 r1 pt:Addr) (R:Rat × Rat) (z:V) (b:Bq) (d:Nat) (t:Rat),vs=[.ref rp,z,.int (d:Int),.ref pt]/\SqT K H rp [.ref r0,.ref r1]/\FQ K H r0 R.1/\FQ K H r1 R.2/\FB 60 R.1/\FB 60 R.2/\BqH K 60 H z b/\FB 60 b.w/\FB 60 b.h/\FB 60 b.u/\FB 60 b.v/\d<=1/\b.sz d < rmD R d/\FQ K H pt t/\FB 1500 t/\∀ (r p:Addr) (c:Bool) (H1:Hp),Same H H1->SqT K H1 r [.ref p,.bl c]->FQ K H1 p (fldQ (rmD R d - b.sz d) (b.pl d+b.sp d * t))->Q (.ref r) H1
theorem yV:FnScope ["room","one","way","time","free","there","both","turns"] ["room","one","way","time"] (zD (top 81)):=⟨rfl,rfl,rfl,by decide+kernel,rfl,by decide+kernel,by decide+kernel⟩
theorem ok_law_place (D:Df K mg "_law_place" (top 81) ["room","one","way","time"]) (T:Tx K mg C) (F_law_minus:Fn P w K mg base 2 "_law_minus" ["one","other"] (jO K)) (F_law_plus:Fn P w K mg base 2 "_law_plus" ["one","other"] (Zr K)) (F_law_times:Fn P w K mg base 2 "_law_times" ["one","other"] (ZI K)) (F_law_over:Fn P w K mg base 2 "_law_over" ["one","other"] (jk K)) (F_law_less:Fn P w K mg base 1 "_law_less" ["one","other"] (Zs K)):Fn P w K mg base 3 "_law_place" ["room","one","way","time"] (YX K):=by
 refine D.ok0 yV (fun vs H Q E h=>?_) (fun f cdv A outer s H vs Q E hr h=>?_)
 ·obtain ⟨rp,r0,r1,pt,R,z,b,d,t,rfl,_⟩:=h
  rfl
 obtain ⟨rp,r0,r1,pt,R,z,b,d,t,rfl,hrm,gr0,gr1,fr0,fr1,hz,fw,fh,fu,fv,hd,hs,gt,ft,k⟩:=h
 refine ⟨_,(zE (zN (i:=4) yV.nd rfl (Or.inl rfl) (zL F_law_minus (by decide) hr (by rfl) zG (zA (zH ix_tup (pv 0) (pv 2) (fun _ _=>rfl)) (zA (zH ix_tup (pv 1) (zO zj zC (pv 2)) (fun _ _=>rfl)) zB))))
   (zE (zN (i:=5) yV.nd rfl (Or.inl rfl) (zL F_law_plus (by decide) hr (by rfl) zG (zA (zH ix_tup (pv 1) (pv 2) (fun _ _=>rfl)) (zA (zL F_law_times (by decide) hr (by rfl) zG (zA (zH ix_tup (pv 1) (zO zj zC (pv 2)) (fun _ _=>rfl)) (zA (pv 3) zB))) zB))))
   (zE (zN (i:=6) yV.nd rfl (Or.inl rfl) (zL F_law_plus (by decide) hr (by rfl) zG (zA (pv 4) (zA (pv 4) zB))))
   (zE (zN (i:=7) yV.nd rfl (Or.inl rfl) (zL F_law_over (by decide) hr (by rfl) zG (zA (pv 5) (zA (pv 6) zB))))
   (zE (zN (i:=5) yV.nd rfl (Or.inl rfl) (zL F_law_minus (by decide) hr (by rfl) zG (zA (pv 5) (zA (zL F_law_times (by decide) hr (by rfl) zG (zA (pv 6) (zA (zR (zA (zO z7 (zH ix_tup (pv 7) zC (fun _ _=>rfl)) (zH ix_tup (pv 7) zC (fun _ _=>rfl))) (zA zC zB))) zB))) zB))))
   (zE (zh (zn (zL F_law_less (by decide) hr (by rfl) zG (zA (pv 4) (zA (pv 5) zB))) (fun _=>rfl)) (zF (zM (zR (zA (zL F_law_minus (by decide) hr (by rfl) zG (zA (pv 6) (zA (pv 5) zB))) (zA jN zB))))) zU)
   (zF (zM (zR (zA (pv 5) (zA jN zB))))))))))),?_⟩
 obtain ⟨p,a0,a1,a2,a3,a4,a5,rfl,hp,⟨g0,g1,g2,g3,g4,g5⟩,⟨d0,d1,_⟩,_⟩:=hz
 obtain ⟨rd,ap,asz,asp,i1,i2,i3,i4,gR,gp,gs,gv,fR,fp,fs,fvv⟩:∃ rd ap asz asp:Addr,atI [V.ref r0,.ref r1] (d:Int)=some (.ref rd)/\atI [V.ref a0,.ref a1,.ref a2,.ref a3,.ref a4,.ref a5,wV b.m] (d:Int)=some (.ref ap)/\atI [V.ref a0,.ref a1,.ref a2,.ref a3,.ref a4,.ref a5,wV b.m] (2+(d:Int))=some (.ref asz)/\atI [V.ref a0,.ref a1,.ref a2,.ref a3,.ref a4,.ref a5,wV b.m] (4+(d:Int))=some (.ref asp)/\FQ K H rd (rmD R d)/\FQ K H ap (b.pl d)/\FQ K H asz (b.sz d)/\FQ K H asp (b.sp d)/\FB 60 (rmD R d)/\FB 60 (b.pl d)/\FB 60 (b.sz d)/\FB 60 (b.sp d):=by
  rcases d01 hd with rfl|rfl
  ·exact ⟨r0,a0,a2,a4,rfl,rfl,rfl,rfl,gr0,g0,g2,g4,fr0,d0,fw,fu⟩
  ·exact ⟨r1,a1,a3,a5,rfl,rfl,rfl,rfl,gr1,g1,g3,g5,fr1,d1,fh,fv⟩
 refine ⟨_,rfl,_,rfl,rp,_,_,_,rfl,rfl,hrm,i1,_,rfl,_,rfl,_,_,rfl,rfl,p,_,_,_,rfl,rfl,hp,i3,_,_,_,_,rfl,gR,fR.mono (by decide),gs,fs.mono (by decide),fun r2 H2 s2 e2=>?_⟩
 have hp2:=Kw.Same.tup s2 hp
 refine ⟨_,rfl,_,rfl,p,_,_,_,rfl,rfl,hp2,i2,_,rfl,_,rfl,_,_,rfl,rfl,p,_,_,_,rfl,rfl,hp2,i4,_,rfl,_,_,_,_,rfl,Kw.Same.tup s2 gv,fvv.mono (by decide),Kw.Same.tup s2 gt,ft.mono (by decide),fun r3 H3 s3 e3=>?_⟩
 have s23:=s2.trans s3
 refine ⟨_,_,_,_,rfl,Kw.Same.tup s23 gp,fp.mono (by decide),e3,(fvv.mul ft).mono (by decide),fun r4 H4 s4 e4=>?_⟩
 have ff:FB 121 (rmD R d - b.sz d):=fR.sub fs
 have fu':FB 1621 (b.pl d+b.sp d * t):=(fp.add (fvv.mul ft)).mono (by decide)
 generalize hfr:rmD R d - b.sz d=fr at e2 ff k
 generalize b.pl d+b.sp d * t=u at e4 fu' k
 have f0:0 < fr:=by grind
 have s34:=s3.trans s4
 refine ⟨_,rfl,_,rfl,_,_,_,_,rfl,Kw.Same.tup s34 e2,ff.mono (by decide),Kw.Same.tup s34 e2,ff.mono (by decide),fun r5 H5 s5 e5=>?_⟩
 have fb:FB 243 (fr+fr):=ff.add ff
 have b0:0 < fr+fr:=by grind
 have bne:fr+fr≠0:=by grind
 refine ⟨_,rfl,_,rfl,_,_,_,_,rfl,Kw.Same.tup s5 e4,fu'.mono (by decide),e5,fb.mono (by decide),bne,fun r6 H6 s6 e6=>?_⟩
 have fq:FB 1864 (u / (fr+fr)):=(fu'.div fb bne).mono (by decide)
 have e6':SqT K H6 r6 [.int (u / (fr+fr)).num,.int (((u / (fr+fr)).den:Nat):Int)]:=e6
 have dpos:(0:Int) < (((u / (fr+fr)).den:Nat):Int):=by have:=(u / (fr+fr)).den_pos; omega
 have own:=fl_own (x:=u) b0
 have sp:=spot_is (x:=u) (k:=(u / (fr+fr)).num.fdiv (((u / (fr+fr)).den:Nat):Int)) b0 own
 have fl:Bd 1864 ((u / (fr+fr)).num.fdiv (((u / (fr+fr)).den:Nat):Int)):=fdiv_bd dpos fq.1
 refine ⟨_,rfl,_,rfl,_,rfl,r6,_,_,_,rfl,rfl,e6',rfl,_,rfl,r6,_,_,_,rfl,rfl,e6',rfl,_,_,rfl,rfl,⟨by omega,(fq.2.mono (n:=9000) (by decide)).log⟩,by show 2<=sizeLine; decide,?_⟩
 intro p7 n7
 dsimp only
 generalize (u / (fr+fr)).num.fdiv (((u / (fr+fr)).den:Nat):Int)=q at fl sp own ⊢
 obtain ⟨H7,q7,s7,e7⟩:=newO n7 (.tup [.int q,.int 1])
 rw [q7]
 clear q7
 have s57:=s6.trans s7
 have gq:FQ K H7 p7 ((q:Int):Rat):=SqT.of e7
 have fqq:FB 1864 ((q:Int):Rat):=FB.ofInt fl (by decide)
 refine ⟨_,_,_,_,rfl,Kw.Same.tup s57 e5,fb.mono (by decide),gq,fqq.mono (by decide),fun r8 H8 s8 e8=>?_⟩
 have s48:=s5.trans (s57.trans s8)
 refine ⟨_,_,_,_,rfl,Kw.Same.tup s48 e4,fu'.mono (by decide),e8,(fb.mul fqq).mono (by decide),fun r9 H9 s9 e9=>?_⟩
 have es:u - (fr+fr) * ((q:Int):Rat)=Ya u (fr+fr):=by rw [<- sp,Rat.mul_comm]
 rw [es] at e9
 have fsp:FB 3800 (Ya u (fr+fr)):=by rw [<- es]; exact (fu'.sub (fb.mul fqq)).mono (by decide)
 have s49:=s48.trans s9
 refine ⟨_,rfl,_,rfl,_,_,_,_,rfl,Kw.Same.tup (s34.trans s49) e2,ff.mono (by decide),e9,fsp.mono (by decide),fun H10 s10=>⟨_,rfl,?_⟩⟩
 have s510:Same H5 H10:=s57.trans (s8.trans (s9.trans s10))
 have all10:Same H H10:=s23.trans (s4.trans (s5.trans s510))
 refine zb (fun c=>?_) (fun c=>?_)
 ·refine ⟨_,rfl,_,rfl,_,_,_,_,rfl,Kw.Same.tup s510 e5,fb.mono (by decide),Kw.Same.tup s10 e9,fsp.mono (by decide),fun r11 H11 s11 e11=>?_⟩
  refine ⟨by show 2<=sizeLine; decide,?_⟩
  intro p12 n12
  obtain ⟨H12,q12,s12,e12⟩:=newO n12 (.tup [.ref r11,.bl true])
  rw [q12]
  clear q12
  refine k p12 r11 true H12 (all10.trans (s11.trans s12)) (SqT.of e12) ?_
  unfold fldQ
  rw [if_pos c]
  exact Kw.Same.tup s12 e11
 ·refine ⟨_,rfl,by show 2<=sizeLine; decide,?_⟩
  intro p12 n12
  obtain ⟨H12,q12,s12,e12⟩:=newO n12 (.tup [.ref r9,.bl false])
  rw [q12]
  clear q12
  refine k p12 r9 false H12 (all10.trans s12) (SqT.of e12) ?_
  unfold fldQ
  rw [if_neg c]
  exact Kw.Same.tup (s10.trans s12) e9
def HtH (K:PySem.W.Frag) (H:Hp) (v:V) (x:Rat × Pr):Prop:=∃ r a:Addr,v=.ref r/\SqT K H r [.ref a,.int (x.2.1:Int),.int x.2.2.1,.int x.2.2.2]/\FQ K H a x.1/\FB 1500 x.1
theorem ze {K:PySem.W.Frag} {H H':Hp} {vs:List V} {xs:List (Rat × Pr)} (h:Al2 (HtH K H) vs xs) (s:Same H H'):Al2 (HtH K H') vs xs:=Al2.imp (fun _ _ ⟨r,a,e,h1,h2,h3⟩=>⟨r,a,e,Kw.Same.tup s h1,Kw.Same.tup s h2,h3⟩) h
theorem yX {K:PySem.W.Frag} {H H':Hp} {c:Addr} {ys vs:List V} {xs:List (Rat × Pr)} (h:Al2 (HtH K H) vs xs) (s:But c H H') (hc:H c=some (.lst ys)):Al2 (HtH K H') vs xs:=Al2.imp (fun _ _ ⟨r,a,e,h1,h2,h3⟩=>⟨r,a,e,s.tup hc h1,s.tup hc h2,h3⟩) h
theorem hit_num {R:Rat × Rat} {b:Bq} {d:Nat} (h:(b.sp d).num=0):hitD R b d=none:=by
 have e:b.sp d=0:=Rat.num_eq_zero.mp h
 unfold hitD
 rw [e,if_neg Rat.lt_irrefl,if_neg Rat.lt_irrefl]
theorem hit_is {R:Rat × Rat} {b:Bq} {d:Nat} {fr:Bool} (h:(b.sp d).num≠0) (e:decide ((b.sp d).num > 0)=fr):hitD R b d=some ((if fr=true then rmD R d - b.sz d - b.pl d else b.pl d) / absQ (b.sp d))/\fr=decide (0 < b.sp d)/\absQ (b.sp d)≠0:=by
 have nz:b.sp d≠0:=fun z=>h (by rw [z]; rfl)
 unfold hitD absQ
 by_cases c:b.sp d < 0
 ·have n1:=q_numneg.mpr c
  have ef:fr=false:=by rw [<- e]; exact decide_eq_false (by omega)
  rw [if_pos c,if_pos c,ef,decide_eq_false (Y8 c)]
  refine ⟨?_,rfl,by grind⟩
  congr 1
  rw [if_neg (by decide),show b.pl d - 0=b.pl d by grind,show (0:Rat) - b.sp d=-b.sp d by grind]
 ·have c':0 < b.sp d:=by grind
  have n1:=q_numpos c'
  have ef:fr=true:=by rw [<- e]; exact decide_eq_true n1
  rw [if_neg c,if_neg c,if_pos c',ef,decide_eq_true c']
  refine ⟨?_,rfl,nz⟩
  congr 1
  rw [if_pos rfl,show b.sp d - 0=b.sp d by grind,show rmD R d - b.far d=rmD R d - b.sz d - b.pl d by unfold Bq.far; grind]
theorem abs_trn {R:Rat × Rat} {b:Bq} {d:Nat} (hd:d<=1):absQ ((trn1 R b d).sp d)=absQ (b.sp d):=by
 rw [ZK hd hd,if_pos rfl]
 unfold absQ
 by_cases c:b.sp d < 0
 ·rw [if_pos c,if_neg (by grind)]
 ·rw [if_neg c]
  by_cases c':-b.sp d < 0
  ·rw [if_pos c']; grind
  ·rw [if_neg c']; grind
def JS (K:PySem.W.Frag):Sp:=fun vs H Q _=>∃ (rp r0 r1:Addr) (R:Rat × Rat) (z:V) (b:Bq) (d m:Nat),vs=[.ref rp,z,.int (d:Int),.int (m:Int)]/\SqT K H rp [.ref r0,.ref r1]/\FQ K H r0 R.1/\FQ K H r1 R.2/\FB 20 R.1/\FB 20 R.2/\BqH K 28 H z b/\FB 28 b.w/\FB 28 b.h/\FB 4 b.u/\FB 4 b.v/\d<=1/\m<=20/\∀ (l:Addr) (zs:List V) (H1:Hp),Same H H1->H l=none->H1 l=some (.lst zs)->Al2 (HtH K H1) zs (zd R d (m+2) b)->Q (.ref l) H1
theorem zt:FnScope ["room","one","way","most","speed","free","size","far","time","found","k"] ["room","one","way","most"] (zD (top 80)):=⟨rfl,rfl,rfl,by decide+kernel,rfl,by decide+kernel,by decide+kernel⟩
theorem ok_law_hits (D:Df K mg "_law_hits" (top 80) ["room","one","way","most"]) (T:Tx K mg C) (F_law_minus:Fn P w K mg base 2 "_law_minus" ["one","other"] (jO K)) (F_law_over:Fn P w K mg base 2 "_law_over" ["one","other"] (jk K)) (F_law_plus:Fn P w K mg base 2 "_law_plus" ["one","other"] (Zr K)):Fn P w K mg base 3 "_law_hits" ["room","one","way","most"] (JS K):=by
 refine D.ok0 zt (fun vs H Q E h=>?_) (fun f cdv A outer s H vs Q E hr h=>?_)
 ·obtain ⟨rp,r0,r1,R,z,b,d,m,rfl,_⟩:=h
  rfl
 obtain ⟨rp,r0,r1,R,z,b,d,m,rfl,hrm,gr0,gr1,fr0,fr1,hz,fw,fh,fu,fv,hd,m20,k⟩:=h
 refine ⟨_,(zE (zN (i:=4) zt.nd rfl (Or.inl rfl) (zH ix_tup (pv 1) (zO zj zC (pv 2)) (fun _ _=>rfl)))
   (zE (zh (zQ ZB (zH ix_tup (pv 4) zC (fun _ _=>rfl)) zC (zS _)) (zF (zM (zv zB))) zU)
   (zE (zN (i:=5) zt.nd rfl (Or.inl rfl) (zL F_law_minus (by decide) hr (by rfl) zG (zA (zH ix_tup (pv 0) (pv 2) (fun _ _=>rfl)) (zA (zH ix_tup (pv 1) (zO zj zC (pv 2)) (fun _ _=>rfl)) zB))))
   (zE (zN (i:=6) zt.nd rfl (Or.inl rfl) (zR (zA (zV Zq (by rfl) T.b_abs PyProof.Rows.Boot.«abs» (zA (zH ix_tup (pv 4) zC (fun _ _=>rfl)) zB)) (zA (zH ix_tup (pv 4) zC (fun _ _=>rfl)) zB))))
   (zE (zN (i:=7) zt.nd rfl (Or.inl rfl) (yg op_gt (zH ix_tup (pv 4) zC (fun _ _=>rfl)) zC (zS _)))
   (zE (zN (i:=8) zt.nd rfl (Or.inl rfl) (zL F_law_over (by decide) hr (by rfl) zG (zA (zH ix_list (zv (zA (zH ix_tup (pv 1) (pv 2) (fun _ _=>rfl)) (zA (zL F_law_minus (by decide) hr (by rfl) zG (zA (pv 5) (zA (zH ix_tup (pv 1) (pv 2) (fun _ _=>rfl)) zB))) zB))) (yW call_int1 (by rfl) T.b_int PyProof.Rows.Boot.«int» (zA (pv 7) zB)) (fun _ _=>rfl)) (zA (pv 6) zB))))
   (zE (zN (i:=9) zt.nd rfl (Or.inl rfl) (zv zB))
   (zE (yF PassesOwn.never rfl (yL (by rfl) T.b_range (zA (zO zj (pv 3) zC) zB)) (za (i:=10) zt.nd rfl (Or.inl rfl)) (zE (zh (zn (pv 7) (fun _=>rfl)) (zF (yJ (YE PySem.F.plainAttrs_list PySem.F.slot_list_append PySem.F.type_list_append yn (pv 9) (zA (zR (zA (pv 8) (zA (pv 2) (zA zC (zA (YS ZO zC) zB))))) zB)))) (zF (yJ (YE PySem.F.plainAttrs_list PySem.F.slot_list_append PySem.F.type_list_append yn (pv 9) (zA (zR (zA (pv 8) (zA (pv 2) (zA (YS ZO zC) (zA zC zB))))) zB)))))
   (zE (zN (i:=8) zt.nd rfl (Or.inl rfl) (zL F_law_plus (by decide) hr (by rfl) zG (zA (pv 8) (zA (zL F_law_over (by decide) hr (by rfl) zG (zA (pv 5) (zA (pv 6) zB))) zB))))
   (zF (zN (i:=7) zt.nd rfl (Or.inl rfl) (pe_not (pv 7)))))))
   (zF (zM (pv 9))))))))))),?_⟩
 obtain ⟨p,a0,a1,a2,a3,a4,a5,rfl,hp,⟨g0,g1,g2,g3,g4,g5⟩,⟨d0,d1,_⟩,_⟩:=hz
 obtain ⟨rd,ap,asz,asp,i1,i2,i3,i4,gR,gp,gs,gv,fR,fp,fs,fvv⟩:∃ rd ap asz asp:Addr,atI [V.ref r0,.ref r1] (d:Int)=some (.ref rd)/\atI [V.ref a0,.ref a1,.ref a2,.ref a3,.ref a4,.ref a5,wV b.m] (d:Int)=some (.ref ap)/\atI [V.ref a0,.ref a1,.ref a2,.ref a3,.ref a4,.ref a5,wV b.m] (2+(d:Int))=some (.ref asz)/\atI [V.ref a0,.ref a1,.ref a2,.ref a3,.ref a4,.ref a5,wV b.m] (4+(d:Int))=some (.ref asp)/\FQ K H rd (rmD R d)/\FQ K H ap (b.pl d)/\FQ K H asz (b.sz d)/\FQ K H asp (b.sp d)/\FB 20 (rmD R d)/\FB 28 (b.pl d)/\FB 28 (b.sz d)/\FB 4 (b.sp d):=by
  rcases d01 hd with rfl|rfl
  ·exact ⟨r0,a0,a2,a4,rfl,rfl,rfl,rfl,gr0,g0,g2,g4,fr0,d0,fw,fu⟩
  ·exact ⟨r1,a1,a3,a5,rfl,rfl,rfl,rfl,gr1,g1,g3,g5,fr1,d1,fh,fv⟩
 have gv':SqT K H asp [.int (b.sp d).num,.int (((b.sp d).den:Nat):Int)]:=gv
 refine ⟨_,rfl,_,rfl,_,_,rfl,rfl,p,_,_,_,rfl,rfl,hp,i4,?_⟩
 refine ⟨_,rfl,asp,_,_,_,rfl,rfl,gv',rfl,rfl,_,rfl,?_⟩
 refine jD (fun c=>?_) (fun c=>?_)
 ·refine ⟨by show 0<=sizeLine; decide,?_⟩
  intro p1 n1
  obtain ⟨H1,q1,s1,e1⟩:=newO n1 (.lst [])
  rw [q1]
  clear q1
  refine k p1 [] H1 s1 n1 e1 ?_
  rw [yH (hit_num c)]
  trivial
 refine ⟨_,rfl,_,rfl,rp,_,_,_,rfl,rfl,hrm,i1,_,rfl,_,rfl,_,_,rfl,rfl,p,_,_,_,rfl,rfl,hp,i3,_,_,_,_,rfl,gR,fR.mono (by decide),gs,fs.mono (by decide),fun r2 H2 s2 e2=>?_⟩
 have gv2:=Kw.Same.tup s2 gv'
 refine ⟨_,rfl,asp,_,_,_,rfl,rfl,gv2,rfl,_,rfl,_,rfl,asp,_,_,_,rfl,rfl,gv2,rfl,by show 2<=sizeLine; decide,?_⟩
 intro p3 n3
 obtain ⟨H3,q3,s3,e3⟩:=newO n3 (.tup [.int (if (b.sp d).num < 0 then -(b.sp d).num else (b.sp d).num),.int (((b.sp d).den:Nat):Int)])
 rw [q3]
 clear q3
 have g3':FQ K H3 p3 (absQ (b.sp d)):=FQ.abs (SqT.of e3)
 have gv3:=Kw.Same.tup s3 gv2
 refine ⟨_,rfl,asp,_,_,_,rfl,rfl,gv3,rfl,_,_,rfl,rfl,?_⟩
 obtain ⟨fr,ef⟩:∃ fr,decide ((b.sp d).num > 0)=fr:=⟨_,rfl⟩
 dsimp only
 rw [ef]
 obtain ⟨hit,efr,ane⟩:=hit_is (R:=R) c ef
 have s03:=s2.trans s3
 have hp3:=Kw.Same.tup s03 hp
 have fa:FB 4 (absQ (b.sp d)):=by
  unfold absQ
  split
  ·exact FB.neg fvv
  ·exact fvv
 have ff:FB 49 (rmD R d - b.sz d):=fR.sub fs
 refine ⟨_,rfl,_,rfl,p,_,_,_,rfl,rfl,hp3,i2,_,rfl,_,rfl,_,rfl,p,_,_,_,rfl,rfl,hp3,i2,_,_,_,_,rfl,Kw.Same.tup s3 e2,ff.mono (by decide),Kw.Same.tup s03 gp,fp.mono (by decide),fun r4 H4 s4 e4=>?_⟩
 refine ⟨by show 2<=sizeLine; decide,?_⟩
 intro p5 n5
 obtain ⟨H5,q5,s5,e5⟩:=newO n5 (.lst [.ref ap,.ref r4])
 rw [q5]
 clear q5
 have s35:=s4.trans s5
 obtain ⟨ax,iax,gax,fax⟩:∃ ax:Addr,atI [V.ref ap,.ref r4] (if fr=true then 1 else 0)=some (.ref ax)/\FQ K H5 ax (if fr=true then rmD R d - b.sz d - b.pl d else b.pl d)/\FB 78 (if fr=true then rmD R d - b.sz d - b.pl d else b.pl d):=by
  cases fr with
  |true=>exact ⟨r4,rfl,Kw.Same.tup s5 e4,(ff.sub fp).mono (by decide)⟩
  |false=>exact ⟨ap,rfl,Kw.Same.tup (s03.trans s35) gp,fp.mono (by decide)⟩
 refine ⟨_,rfl,.inr ⟨_,rfl,p5,_,_,_,rfl,rfl,SqL.of e5,iax,_,rfl,_,_,_,_,rfl,gax,fax.mono (by decide),Kw.Same.tup s35 g3',fa.mono (by decide),ane,fun r6 H6 s6 e6=>?_⟩⟩
 refine ⟨by show 0<=sizeLine; decide,?_⟩
 intro p7 n7
 obtain ⟨H7,q7,s7,e7⟩:=newO n7 (.lst [])
 rw [q7]
 clear q7
 have s07:=s03.trans (s35.trans (s6.trans s7))
 have n70:H p7=none:=jA (s03.trans (s35.trans s6)) n7
 have ft0:FB 82 ((if fr=true then rmD R d - b.sz d - b.pl d else b.pl d) / absQ (b.sp d)):=(FB.div fax fa ane).mono (by decide)
 have fP:FB 61 ((rmD R d - b.sz d) / absQ (b.sp d)):=(FB.div ff fa ane).mono (by decide)
 have e27:=Kw.Same.tup (s3.trans (s35.trans (s6.trans s7))) e2
 have g37:=Kw.Same.tup (s35.trans (s6.trans s7)) g3'
 have nt7:NoT [p7] H7:=NoT.lst e7 NoT.nil
 refine ⟨_,rfl,_,_,rfl,rfl,_,rfl,by omega,by omega,?_⟩
 rw [show ((m:Int)+2).toNat=m+2 by omega]
 refine yI (n:=m+2) (fun j σ' H'=>∃ (pt:Addr) (t:Rat) (fa:Bool) (u10:Option V) (c:Bq) (ys:List V) (xs:List (Rat × Pr)),σ'=[some (.ref rp),some (.ref p),some (.int (d:Int)),some (.int (m:Int)),some (.ref asp),some (.ref r2),some (.ref p3),some (.bl fa),some (.ref pt),some (.ref p7),u10]/\But p7 H7 H'/\H' p7=some (.lst ys)/\Al2 (HtH K H') ys xs/\xs.length=j/\j<=m+2/\xs++zd R d (m+2 - j) c=zd R d (m+2) b/\FQ K H' pt t/\FB (82+62 * j) t/\hitD R c d=some t/\fa=decide (0 < c.sp d)/\absQ (c.sp d)=absQ (b.sp d)/\c.sz d=b.sz d) ⟨r6,_,fr,_,b,[],[],rfl,But.refl _,e7,trivial,rfl,Nat.zero_le _,rfl,Kw.Same.tup s7 e6,ft0,hit,efr,rfl,rfl⟩ ?_ ?_
 ·rintro j σ' H8 hj ⟨pt,t,fa',u10,c',ys,xs,rfl,b8,hp8,al8,lx,jl,eq,gt,ft,ht,efa,eab,esz⟩
  have ly:=Al2.len al8
  have ft1500:FB 1500 t:=ft.mono (by omega)
  have bs8:Buts [p7] H7 H8:=Buts.one b8 (by simp)
  refine g_go ?_
  dsimp only
  refine cut1 (fun σ' H'=>∃ (ys':List V),σ'=[some (.ref rp),some (.ref p),some (.int (d:Int)),some (.int (m:Int)),some (.ref asp),some (.ref r2),some (.ref p3),some (.bl fa'),some (.ref pt),some (.ref p7),some (.int (0+(j:Int)))]/\But p7 H8 H'/\H' p7=some (.lst ys')/\Al2 (HtH K H') ys' (xs++[(t,pr1D c' d)])) (fun N hN=>?_) ?_
  ·have app:∀ (p9:Addr) (H9:Hp) (i j':Int),Same H8 H9->H9 p9=some (.tup [.ref pt,.int (d:Int),.int i,.int j'])->pr1D c' d=(d,i,j')->N [some (.ref rp),some (.ref p),some (.int (d:Int)),some (.int (m:Int)),some (.ref asp),some (.ref r2),some (.ref p3),some (.bl fa'),some (.ref pt),some (.ref p7),some (.int (0+(j:Int)))] (upd H9 p7 (.lst (ys++[.ref p9]))):=fun p9 H9 i j' s9 e9 ep=>by
    obtain ⟨H10,q10,b10,e10⟩:=newB (H:=H9) (p:=p7) (.lst (ys++[.ref p9]))
    rw [q10]
    have hp9:=s9 _ _ hp8
    refine hN _ _ ⟨_,rfl,(But.of s9).trans b10,e10,?_⟩
    rw [ep]
    exact yX (Al2.snoc (ze al8 s9) ⟨p9,pt,rfl,SqT.of e9,Kw.Same.tup s9 gt,ft1500⟩) b10 hp9
   cases fa' with
   |true=>
    have sp:0 < c'.sp d:=of_decide_eq_true efa.symm
    refine ⟨_,rfl,_,rfl,iteT ?_⟩
    refine ⟨_,rfl,.inl ⟨rfl,_,SqL.of hp8⟩,_,rfl,_,rfl,_,rfl,by show 4<=sizeLine; decide,?_⟩
    intro p9 n9
    obtain ⟨H9,q9,s9,e9⟩:=newO n9 (.tup [.ref pt,.int (d:Int),.int 0,.int (-2)])
    rw [q9]
    clear q9
    refine ⟨p7,ys,_,rfl,rfl,s9 _ _ hp8,by rw [sizeLine_eq]; omega,?_⟩
    exact app p9 H9 0 (-2) s9 e9 (by unfold pr1D; rw [if_neg (fun z=>Y8 z sp)])
   |false=>
    have sp:¬ 0 < c'.sp d:=of_decide_eq_false efa.symm
    have sn:c'.sp d < 0:=by
     unfold hitD at ht
     by_cases z:c'.sp d < 0
     ·exact z
     ·rw [if_neg z,if_neg sp] at ht
      cases ht
    refine ⟨_,rfl,_,rfl,iteF ?_⟩
    refine ⟨_,rfl,.inl ⟨rfl,_,SqL.of hp8⟩,_,rfl,_,rfl,_,rfl,by show 4<=sizeLine; decide,?_⟩
    intro p9 n9
    obtain ⟨H9,q9,s9,e9⟩:=newO n9 (.tup [.ref pt,.int (d:Int),.int (-1),.int 0])
    rw [q9]
    clear q9
    refine ⟨p7,ys,_,rfl,rfl,s9 _ _ hp8,by rw [sizeLine_eq]; omega,?_⟩
    exact app p9 H9 (-1) 0 s9 e9 (by unfold pr1D; rw [if_pos sn])
  rintro σ1 H9 ⟨ys',rfl,b9,hp9,al9⟩
  have b79:=b8.trans b9
  have bs79:Buts [p7] H7 H9:=Buts.one b79 (by simp)
  refine ⟨_,rfl,_,rfl,_,rfl,_,_,_,_,rfl,bs79.tup nt7 e27,ff.mono (by decide),bs79.tup nt7 g37,fa.mono (by decide),ane,fun r10 H10 s10 e10=>?_⟩
  have gt9:=b9.tup hp8 gt
  refine ⟨_,_,_,_,rfl,Kw.Same.tup s10 gt9,ft.mono (by omega),e10,fP.mono (by decide),fun r11 H11 s11 e11=>?_⟩
  have s911:=s10.trans s11
  refine ⟨_,rfl,_,rfl,?_⟩
  refine ⟨r11,_,!fa',_,trn1 R c' d,ys',xs++[(t,pr1D c' d)],rfl,b79.trans (But.of s911),s911 _ _ hp9,ze al9 s911,by rw [List.length_append,lx]; rfl,by omega,?_,e11,((ft.add fP).mono (by omega)),?_,?_,?_,?_⟩
  ·rw [<- eq,List.append_assoc]
   congr 1
   rw [show m+2 - j=(m+2 - (j+1))+1 by omega,zg ht]
   rfl
  ·have:=Yb hd ht
   rw [eab,esz] at this
   exact this
  ·rw [efa,ZK hd hd,if_pos rfl]
   have nz:c'.sp d≠0:=fun z=>by
    unfold hitD at ht
    rw [z,if_neg Rat.lt_irrefl,if_neg Rat.lt_irrefl] at ht
    cases ht
   by_cases z:0 < c'.sp d
   ·rw [decide_eq_true z,decide_eq_false (show ¬ 0 < -c'.sp d by grind)]
    rfl
   ·rw [decide_eq_false z,decide_eq_true (show 0 < -c'.sp d by grind)]
    rfl
  ·rw [abs_trn hd,eab]
  ·rw [YL,esz]
 ·rintro σ' H8 ⟨pt,t,fa',u10,c',ys,xs,rfl,b8,hp8,al8,lx,jl,eq,_⟩
  rw [Nat.sub_self] at eq
  have eq':xs=zd R d (m+2) b:=by rw [<- eq]; exact (List.append_nil _).symm
  rw [eq'] at al8
  have s08:Same H H8:=fun a' o ha=>b8 _ _ (zI ha n70) (s07 _ _ ha)
  exact ⟨_,rfl,k p7 ys H8 s08 n70 hp8 al8⟩
theorem Jx {P:Nat->Rat->Prop} {qs:List Rat} {x:Rat} {i:Nat} (l:qs.length=i) (h:∀ j q,qs[j]?=some q->P j q) (hx:P i x):∀ j q,(qs++[x])[j]?=some q->P j q:=fun j q e=>by
 by_cases c:j < qs.length
 ·rw [List.getElem?_append_left c] at e
  exact h j q e
 ·rw [List.getElem?_append_right (by omega)] at e
  by_cases z:j - qs.length=0
  ·rw [z] at e
   cases e
   rw [show j=i by omega]
   exact hx
  ·rw [List.getElem?_eq_none (by simp; omega)] at e
   cases e
theorem two_of {qs:List Rat} (l:qs.length=2):∃ a b,qs=[a,b]:=match qs,l with|[a,b],_=>⟨a,b,rfl⟩
theorem bd4 {n:Int} (h1:-8<=n) (h2:n<=8):Bd 4 n:=by
 show n.natAbs < 2 ^ 4
 have p:(2:Nat) ^ 4=16:=by decide
 omega
theorem sp_f4 {q:Rat} (h:SpR q):FB 4 q:=by
 obtain ⟨n,c,n1,n2,c1,c2,rfl⟩:=h
 exact FB.fit (by omega) (bd4 (by omega) (by omega)) (bd4 (by omega) (by omega))
def J1 (K:PySem.W.Frag):Sp:=fun vs H Q _=>∃ (b:Addr) (n:Int) (rp r0 r1:Addr) (R:Rat × Rat),vs=[.ref b,.ref rp]/\H b=some (.lst [.int n])/\SqT K H rp [.ref r0,.ref r1]/\FQ K H r0 R.1/\FQ K H r1 R.2/\RmQ R/\∀ (z:Addr) (c:Bq) (n':Int) (H1:Hp),But b H H1->H1 b=some (.lst [.int n'])->BqH K 28 H1 (.ref z) c->OneQ R c->Q (.ref z) H1
theorem yj:FnScope ["box","room","sides","way","places","free","speeds"] ["box","room"] (zD (top 79)):=⟨rfl,rfl,rfl,by decide+kernel,rfl,by decide+kernel,by decide+kernel⟩
theorem ok_law_one (D:Df K mg "_law_one" (top 79) ["box","room"]) (T:Tx K mg C) (F_law_over:Fn P w K mg base 2 "_law_over" ["one","other"] (jk K)) (F_law_times:Fn P w K mg base 2 "_law_times" ["one","other"] (ZI K)) (F_law_take:Fn P w K mg base 1 "_law_take" ["box","many"] spTake) (F_law_minus:Fn P w K mg base 2 "_law_minus" ["one","other"] (jO K)) (F_law_fit:Fn P w K mg base 1 "_law_fit" ["top","bottom"] (yk K)):Fn P w K mg base 3 "_law_one" ["box","room"] (J1 K):=by
 refine D.ok0 yj (fun vs H Q E h=>?_) (fun f cdv A outer s H vs Q E hr h=>?_)
 ·obtain ⟨b,n,rp,r0,r1,R,rfl,_⟩:=h
  rfl
 obtain ⟨b,n,rp,r0,r1,R,rfl,hb,hrm,gr0,gr1,rmq,k⟩:=h
 refine ⟨_,(zE (zN (i:=2) yj.nd rfl (Or.inl rfl) (zv zB))
   (zE (yF PassesOwn.never rfl (yL (by rfl) T.b_range (zA zC zB)) (za (i:=3) yj.nd rfl (Or.inl rfl)) (zF (yJ (YE PySem.F.plainAttrs_list PySem.F.slot_list_append PySem.F.type_list_append yn (pv 2) (zA (zL F_law_over (by decide) hr (by rfl) zG (zA (zL F_law_times (by decide) hr (by rfl) zG (zA (zH ix_tup (pv 1) (pv 3) (fun _ _=>rfl)) (zA (zR (zA (zO zj zC (zL F_law_take (by decide) hr (by rfl) zG (zA (pv 0) (zA zC zB)))) (zA zC zB))) zB))) (zA (zR (zA zC (zA zC zB))) zB))) zB)))))
   (zE (zN (i:=4) yj.nd rfl (Or.inl rfl) (zv zB))
   (zE (yF PassesOwn.never rfl (yL (by rfl) T.b_range (zA zC zB)) (za (i:=3) yj.nd rfl (Or.inl rfl)) (zE (zN (i:=5) yj.nd rfl (Or.inl rfl) (zL F_law_minus (by decide) hr (by rfl) zG (zA (zH ix_tup (pv 1) (pv 3) (fun _ _=>rfl)) (zA (zH ix_list (pv 2) (pv 3) (fun _ _=>rfl)) zB))))
   (zF (yJ (YE PySem.F.plainAttrs_list PySem.F.slot_list_append PySem.F.type_list_append yn (pv 4) (zA (zL F_law_over (by decide) hr (by rfl) zG (zA (zL F_law_times (by decide) hr (by rfl) zG (zA (pv 5) (zA (zR (zA (zL F_law_take (by decide) hr (by rfl) zG (zA (pv 0) (zA zC zB))) (zA zC zB))) zB))) (zA (zR (zA zC (zA zC zB))) zB))) zB))))))
   (zE (@ps_lc _ _ _ _ _ _ _ _ _ _ ["box"] [0] 6 _ _ _ yj.nd rfl rfl rfl rfl (yL (by rfl) T.b_range (zA zC zB)) rfl (by decide) rfl (by decide) rfl (by decide) (ZQ (j:=0) rfl rfl rfl rfl (.inl rfl)) (fun y c h=>h) (YO rfl) (fun C z Hc fp=>(zL F_law_fit (by decide) hr (by rfl) zG (zA (zO Zu (zL F_law_take (by decide) hr (by rfl) zG (zA (pv 1) (zA zC zB))) zC) (zA (zH (ixL (K:=K) rfl) (zv (zA zC (zA zC (zA zC zB)))) (zL F_law_take (by decide) hr (by rfl) zG (zA (pv 1) (zA zC zB))) (fun _ _=>rfl)) zB)))) (fun _=>rfl))
   (zF (zM (zR (zA (zH ix_list (pv 4) zC (fun _ _=>rfl)) (zA (zH ix_list (pv 4) zC (fun _ _=>rfl)) (zA (zH ix_list (pv 2) zC (fun _ _=>rfl)) (zA (zH ix_list (pv 2) zC (fun _ _=>rfl)) (zA (zH ix_list (pv 6) zC (fun _ _=>rfl)) (zA (zH ix_list (pv 6) zC (fun _ _=>rfl)) (zA (zO zj zC (zL F_law_take (by decide) hr (by rfl) zG (zA (pv 0) (zA zC zB)))) zB))))))))))))))),?_⟩
 have sm9:∀ i:Int,-(2 ^ 64) < i->i < 2 ^ 64->Bd 9000 i:=fun i h1 h2=>(Bd.small h1 h2).mono (by decide)
 have fr0:FB 20 R.1:=rmq.2.2.1.fb (by decide) (by decide)
 have fr1:FB 20 R.2:=rmq.2.2.2.fb (by decide) (by decide)
 have f64:∀ {i:Int},-(2 ^ 64) < i->i < 2 ^ 64->FB 64 (i:Rat):=fun h1 h2=>FB.ofInt (Bd.small h1 h2) (by decide)
 refine ⟨by show 0<=sizeLine; decide,?_⟩
 intro p1 n1
 obtain ⟨H1,q1,s1,e1⟩:=newO n1 (.lst [])
 rw [q1]
 clear q1
 have nb1:p1≠b:=Ne.symm (zI hb n1)
 have nf1:=n1
 refine ⟨_,rfl,by decide,by decide,yI (n:=2) (fun i σ' H'=>∃ (u3 u4 u5 u6:Option V) (nb:Int) (ys:List V) (qs:List Rat),σ'=[some (.ref b),some (.ref rp),some (.ref p1),u3,u4,u5,u6]/\But b H H'/\H' b=some (.lst [.int nb])/\H' p1=some (.lst ys)/\Al2 (FrQ K H' 28) ys qs/\qs.length=i/\(∀ j q,qs[j]?=some q->SdR (rmD R j) q)) ⟨_,_,_,_,n,[],[],rfl,But.of s1,s1 _ _ hb,e1,trivial,rfl,fun j q hq=>(by simp at hq)⟩ ?_ ?_⟩
 ·rintro i σ' H2 hi ⟨u3,u4,u5,u6,nb,ys,qs,rfl,b2,hb2,hl2,al2,lq,sd⟩
  have hrm2:=But.tup b2 hb hrm
  obtain ⟨rd,i1,gR,fR,rq⟩:∃ rd:Addr,atI [V.ref r0,.ref r1] (0+(i:Int))=some (.ref rd)/\FQ K H2 rd (rmD R i)/\FB 20 (rmD R i)/\Rt 42 20 (rmD R i):=by
   match i,hi with
   |0,_=>exact ⟨r0,rfl,But.tup b2 hb gr0,fr0,rmq.2.2.1⟩
   |1,_=>exact ⟨r1,rfl,But.tup b2 hb gr1,fr1,rmq.2.2.2⟩
  refine ⟨_,rfl,.inl ⟨rfl,_,SqL.of hl2⟩,_,rfl,_,rfl,rp,_,_,_,rfl,rfl,hrm2,i1,_,rfl,b,9,nb,rfl,hb2,by decide,sm9 _ (by decide) (by decide),fun d3 n3 H3 lo3 hi3 s3 hb3=>?_⟩
  refine ⟨_,_,rfl,rfl,by show 2<=sizeLine; decide,?_⟩
  intro p4 n4
  obtain ⟨H4,q4,s4,e4⟩:=newO n4 (.tup [.int (1+d3),.int 1])
  rw [q4]
  clear q4
  have g4:FQ K H4 p4 ((1+d3:Int):Rat):=SqT.of e4
  refine ⟨_,_,_,_,rfl,Kw.Same.tup s4 (But.tup s3 hb2 gR),fR.mono (by decide),g4,(f64 (by omega) (by omega)).mono (by decide),fun r5 H5 s5 e5=>?_⟩
  refine ⟨by show 2<=sizeLine; decide,?_⟩
  intro p6 n6
  obtain ⟨H6,q6,s6,e6⟩:=newO n6 (.tup [.int 10,.int 1])
  rw [q6]
  clear q6
  have g6:FQ K H6 p6 ((10:Int):Rat):=SqT.of e6
  have f5:FB 84 (rmD R i * ((1+d3:Int):Rat)):=fR.mul (f64 (by omega) (by omega))
  refine ⟨_,_,_,_,rfl,Kw.Same.tup s6 e5,f5.mono (by decide),g6,(f64 (by decide) (by decide)).mono (by decide),by decide,fun r7 H7 s7 e7=>?_⟩
  have s37:=s4.trans (s5.trans (s6.trans s7))
  have hl7:=s37 _ _ (s3 _ _ nb1 hl2)
  have lys:=Al2.len al2
  refine ⟨p1,ys,_,rfl,rfl,hl7,by rw [sizeLine_eq]; omega,?_⟩
  obtain ⟨H8,q8,b8,e8⟩:=newB (H:=H7) (p:=p1) (.lst (ys++[.ref r7]))
  dsimp only
  rw [q8]
  clear q8
  have b27:But b H H7:=b2.trans (s3.trans (.of s37))
  have sq:SdR (rmD R i) (rmD R i * ((1+d3:Int):Rat) / ((10:Int):Rat)):=⟨1+d3,by omega,by omega,rfl⟩
  exact ⟨_,_,_,_,n3,_,_,rfl,fun a o na ho=>b8 a o (zI ho nf1) (b27 a o na ho),b8 _ _ (Ne.symm nb1) (s37 _ _ hb3),e8,Al2.snoc (Z5 (j4 (Z5 al2 s3 hb2) s37) b8 hl7) ⟨r7,rfl,But.tup b8 hl7 e7,(rt_side rq sq).f28⟩,by rw [List.length_append,lq]; rfl,Jx lq sd sq⟩
 rintro σ' H2 ⟨u3,u4,u5,u6,n2,ys2,qs2,rfl,b2,hb2,hl2,al2,lq2,sd2⟩
 obtain ⟨w,h,rfl⟩:=two_of lq2
 have sw:SdR R.1 w:=sd2 0 w rfl
 have sh:SdR R.2 h:=sd2 1 h rfl
 obtain ⟨x1,x2,rfl,⟨aw,rfl,gw2,fw⟩,⟨ah,rfl,gh2,fh⟩⟩:=Al2.two al2
 refine ⟨by show 0<=sizeLine; decide,?_⟩
 intro p3 n3
 obtain ⟨H3,q3,s3,e3⟩:=newO n3 (.lst [])
 rw [q3]
 clear q3
 have nb3:p3≠b:=Ne.symm (zI hb2 n3)
 have n31:p1≠p3:=zI hl2 n3
 have hb3:=s3 _ _ hb2
 have hl3:=s3 _ _ hl2
 have gw3:=Kw.Same.tup s3 gw2
 have gh3:=Kw.Same.tup s3 gh2
 have hrm3:=Kw.Same.tup s3 (But.tup b2 hb hrm)
 have gr03:=Kw.Same.tup s3 (But.tup b2 hb gr0)
 have gr13:=Kw.Same.tup s3 (But.tup b2 hb gr1)
 have nf3:=n3
 refine ⟨_,rfl,by decide,by decide,yI (n:=2) (fun i σ' H'=>∃ (u3 u5 u6:Option V) (nb:Int) (ys:List V) (qs:List Rat),σ'=[some (.ref b),some (.ref rp),some (.ref p1),u3,some (.ref p3),u5,u6]/\Buts [b,p3] H3 H'/\H' b=some (.lst [.int nb])/\H' p3=some (.lst ys)/\Al2 (FrQ K H' 28) ys qs/\qs.length=i/\(∀ j q,qs[j]?=some q->PlR (rmD R j) (if j=0 then w else h) q)) ⟨_,_,_,_,[],[],rfl,Buts.refl,hb3,e3,trivial,rfl,fun j q hq=>(by simp at hq)⟩ ?_ ?_⟩
 ·rintro i σ' H4 hi ⟨u3,u5,u6,nb,ys,qs,rfl,b4,hb4,hl4,al4,lq,sd⟩
  have nt3:NoT [b,p3] H3:=NoT.lst hb3 (NoT.lst e3 NoT.nil)
  have hrm4:=b4.tup nt3 hrm3
  have hs4:=b4 _ _ (by simp [nb1,n31]) hl3
  obtain ⟨rd,ad,i1,i2,gR,fR,gS,fS,rq,sq⟩:∃ rd ad:Addr,atI [V.ref r0,.ref r1] (0+(i:Int))=some (.ref rd)/\atI [V.ref aw,.ref ah] (0+(i:Int))=some (.ref ad)/\FQ K H4 rd (rmD R i)/\FB 20 (rmD R i)/\FQ K H4 ad (if i=0 then w else h)/\FB 28 (if i=0 then w else h)/\Rt 42 20 (rmD R i)/\SdR (rmD R i) (if i=0 then w else h):=by
   match i,hi with
   |0,_=>exact ⟨r0,aw,rfl,rfl,b4.tup nt3 gr03,fr0,b4.tup nt3 gw3,fw,rmq.2.2.1,sw⟩
   |1,_=>exact ⟨r1,ah,rfl,rfl,b4.tup nt3 gr13,fr1,b4.tup nt3 gh3,fh,rmq.2.2.2,sh⟩
  refine ⟨_,rfl,_,rfl,rp,_,_,_,rfl,rfl,hrm4,i1,_,rfl,_,rfl,p1,_,_,_,rfl,rfl,SqL.of hs4,i2,_,_,_,_,rfl,gR,fR.mono (by decide),gS,fS.mono (by decide),fun r5 H5 s5 e5=>?_⟩
  have hl5:=s5 _ _ hl4
  have hb5:=s5 _ _ hb4
  refine ⟨_,rfl,.inl ⟨rfl,_,SqL.of hl5⟩,_,rfl,_,rfl,b,7,nb,rfl,hb5,by decide,sm9 _ (by decide) (by decide),fun d6 n6 H6 lo6 hi6 s6 hb6=>?_⟩
  refine ⟨by show 2<=sizeLine; decide,?_⟩
  intro p7 n7
  obtain ⟨H7,q7,s7,e7⟩:=newO n7 (.tup [.int d6,.int 1])
  rw [q7]
  clear q7
  have g7:FQ K H7 p7 ((d6:Int):Rat):=SqT.of e7
  have f5:FB 49 (rmD R i - (if i=0 then w else h)):=fR.sub fS
  refine ⟨_,_,_,_,rfl,Kw.Same.tup s7 (But.tup s6 hb5 e5),f5.mono (by decide),g7,(f64 (by omega) (by omega)).mono (by decide),fun r8 H8 s8 e8=>?_⟩
  refine ⟨by show 2<=sizeLine; decide,?_⟩
  intro p9 n9
  obtain ⟨H9,q9,s9,e9⟩:=newO n9 (.tup [.int 6,.int 1])
  rw [q9]
  clear q9
  have g9:FQ K H9 p9 ((6:Int):Rat):=SqT.of e9
  have f8:FB 113 ((rmD R i - (if i=0 then w else h)) * ((d6:Int):Rat)):=f5.mul (f64 (by omega) (by omega))
  refine ⟨_,_,_,_,rfl,Kw.Same.tup s9 e8,f8.mono (by decide),g9,(f64 (by decide) (by decide)).mono (by decide),by decide,fun r10 H10 s10 e10=>?_⟩
  have s610:=s7.trans (s8.trans (s9.trans s10))
  have hl10:=s610 _ _ (s6 _ _ nb3 hl5)
  have lys:=Al2.len al4
  refine ⟨p3,ys,_,rfl,rfl,hl10,by rw [sizeLine_eq]; omega,?_⟩
  obtain ⟨H11,q11,b11,e11⟩:=newB (H:=H10) (p:=p3) (.lst (ys++[.ref r10]))
  dsimp only
  rw [q11]
  clear q11
  have pq:PlR (rmD R i) (if i=0 then w else h) ((rmD R i - (if i=0 then w else h)) * ((d6:Int):Rat) / ((6:Int):Rat)):=⟨d6,by omega,by omega,rfl⟩
  refine ⟨_,_,_,n6,_,_,rfl,b4.trans ((Buts.of s5).trans ((Buts.one s6 (by simp)).trans ((Buts.of s610).trans (Buts.one b11 (by simp))))),b11 _ _ (Ne.symm nb3) (s610 _ _ hb6),e11,Al2.snoc (Z5 (j4 (Z5 (j4 al4 s5) s6 hb5) s610) b11 hl10) ⟨r10,rfl,But.tup b11 hl10 e10,(Ju rq sq pq).f28⟩,by rw [List.length_append,lq]; rfl,Jx lq sd pq⟩
 rintro σ' H4 ⟨u3,u5,u6,n4,ys4,qs4,rfl,b4,hb4,hl4,al4,lq4,sd4⟩
 have nt3:NoT [b,p3] H3:=NoT.lst hb3 (NoT.lst e3 NoT.nil)
 obtain ⟨x,y,rfl⟩:=two_of lq4
 have px:PlR R.1 w x:=sd4 0 x rfl
 have py:PlR R.2 h y:=sd4 1 y rfl
 obtain ⟨z1,z2,rfl,⟨ax,rfl,gx4,fx⟩,⟨ay,rfl,gy4,fy⟩⟩:=Al2.two al4
 have hs4:=b4 _ _ (by simp [nb1,n31]) hl3
 have gw4:=b4.tup nt3 gw3
 have gh4:=b4.tup nt3 gh3
 have h04:∃ (nb:Int) (qs:List Rat),But b H4 H4/\H4 b=some (.lst [.int nb])/\Al2 (FrQ K H4 4) [] qs/\qs.length=0/\(∀ (j:Nat) q,qs[j]?=some q->SpR q):=⟨n4,[],But.refl _,hb4,trivial,rfl,fun j q hq=>by simp at hq⟩
 refine ⟨_,rfl,by decide,by decide,lc_range (lo:=0) (n:=2) (fun i ys H'=>∃ (nb:Int) (qs:List Rat),But b H4 H'/\H' b=some (.lst [.int nb])/\Al2 (FrQ K H' 4) ys qs/\qs.length=i/\(∀ (j:Nat) q,qs[j]?=some q->SpR q)) h04 (by decide) (fun i ys H' ⟨_,_,_,_,al,l,_⟩=>by rw [Al2.len al,l]) ?_ ?_⟩
 ·rintro i ys H5 Q' hi ⟨nb,qs,b5,hb5,al5,lq,sd⟩ kk
  refine ⟨_,rfl,b,9,nb,rfl,hb5,by decide,sm9 _ (by decide) (by decide),fun d6 n6 H6 lo6 hi6 s6 hb6=>?_⟩
  refine ⟨_,_,rfl,rfl,by show 3<=sizeLine; decide,?_⟩
  intro p7 n7
  obtain ⟨H7,q7,s7,e7⟩:=newO n7 (.lst [.int 1,.int 2,.int 3])
  rw [q7]
  clear q7
  have nb7:p7≠b:=Ne.symm (zI hb6 n7)
  refine ⟨_,rfl,b,3,n6,rfl,s7 _ _ hb6,by decide,sm9 _ (by decide) (by decide),fun d8 n8 H8 lo8 hi8 s8 hb8=>?_⟩
  obtain ⟨bt,ebt,mbt⟩:=atI_mem [1,2,3] d8 lo8 hi8
  have bbt:1<=bt/\bt<=3:=(show ∀ z∈([1,2,3]:List Int),1<=z/\z<=3 by decide) bt mbt
  refine ⟨p7,_,_,_,rfl,rfl,SqL.of (s8 _ _ nb7 e7),ebt,_,_,rfl,sm9 _ (by omega) (by omega),by omega,fun p9 H9 s9 f9=>?_⟩
  have sq:SpR (Rat.divInt (d6 - 4) bt):=⟨d6 - 4,bt,by omega,by omega,by omega,by omega,rfl⟩
  refine kk _ _ ⟨n8,_,b5.trans (s6.trans ((But.of s7).trans (s8.trans (.of s9)))),s9 _ _ hb8,Al2.snoc (j4 (Z5 (j4 (Z5 al5 s6 hb5) s7) s8 (s7 _ _ hb6)) s9) ⟨p9,rfl,f9,sp_f4 sq⟩,by rw [List.length_append,lq]; rfl,Jx (P:=fun _ q=>SpR q) lq sd sq⟩
 rintro ys5 H5 ⟨n5,qs5,b5,hb5,al5,lq5,sd5⟩ p6 nw6
 obtain ⟨H6,q6,s6,e6⟩:=newO nw6 (.lst ys5)
 rw [q6]
 clear q6
 obtain ⟨u,v,rfl⟩:=two_of lq5
 have su:SpR u:=sd5 0 u rfl
 have sv:SpR v:=sd5 1 v rfl
 obtain ⟨y1,y2,rfl,⟨au,rfl,gu6,fu⟩,⟨av,rfl,gv6,fv⟩⟩:=Al2.two (j4 al5 s6)
 have hs6:=s6 _ _ (b5 _ _ nb1 hs4)
 have hl6:=s6 _ _ (b5 _ _ nb3 hl4)
 refine ⟨_,rfl,p3,_,_,_,rfl,rfl,SqL.of hl6,rfl,_,rfl,p3,_,_,_,rfl,rfl,SqL.of hl6,rfl,_,rfl,p1,_,_,_,rfl,rfl,SqL.of hs6,rfl,_,rfl,p1,_,_,_,rfl,rfl,SqL.of hs6,rfl,_,rfl,p6,_,_,_,rfl,rfl,SqL.of e6,rfl,_,rfl,p6,_,_,_,rfl,rfl,SqL.of e6,rfl,_,rfl,b,1000,n5,rfl,s6 _ _ hb5,by decide,sm9 _ (by decide) (by decide),fun d7 n7 H7 lo7 hi7 s7 hb7=>?_⟩
 refine ⟨_,_,rfl,rfl,by show 7<=sizeLine; decide,?_⟩
 intro p8 n8
 obtain ⟨H8,q8,s8,e8⟩:=newO n8 (.tup [.ref ax,.ref ay,.ref aw,.ref ah,.ref au,.ref av,.int (1+d7)])
 rw [q8]
 clear q8
 have b46:But b H4 H6:=b5.trans (.of s6)
 have hb6:=s6 _ _ hb5
 have up:∀ {a:Addr} {q:Rat},FQ K H4 a q->FQ K H8 a q:=fun g=>Kw.Same.tup s8 (But.tup s7 hb6 (But.tup b46 hb4 g))
 have up6:∀ {a:Addr} {q:Rat},FQ K H6 a q->FQ K H8 a q:=fun g=>Kw.Same.tup s8 (But.tup s7 hb6 g)
 have one:OneQ R ⟨x,y,w,h,u,v,some (1+d7)⟩:=⟨rmq,sw,sh,px,py,su,sv,_,rfl,by omega,by omega⟩
 refine k p8 ⟨x,y,w,h,u,v,some (1+d7)⟩ n7 H8 ?_ (s8 _ _ hb7) ⟨p8,ax,ay,aw,ah,au,av,rfl,SqT.of e8,⟨up gx4,up gy4,up gw4,up gh4,up6 gu6,up6 gv6⟩,⟨fx,fy,fw.mono (by decide),fh.mono (by decide),fu.mono (by decide),fv.mono (by decide)⟩,fun m e=>by cases e; exact ⟨by omega,by omega⟩⟩ one
 intro a o na ho
 have a2:=b2 a o na ho
 have a3:=s3 a o a2
 have a4:=b4 a o (by simp [na,zI a2 nf3]) a3
 exact s8 a o (s7 a o na (b46 a o na a4))
theorem mrg_nil {ys:List (Rat × Pr)}:mrgQ [] ys=ys:=by unfold mrgQ; rfl
theorem mrg_nil2:∀ {xs:List (Rat × Pr)},mrgQ xs []=xs
 |[]=>by unfold mrgQ; rfl
 |x::xs=>by unfold mrgQ; rfl
theorem mrg_cons {x y:Rat × Pr} {xs ys:List (Rat × Pr)}:mrgQ (x::xs) (y::ys)=if y.1 < x.1 then y::mrgQ (x::xs) ys else x::mrgQ xs (y::ys):=by
 conv=>lhs; unfold mrgQ
theorem pop0 {xs:List V} {x:V}:seqIndex? 0 (x::xs).length=some 0:=by
 unfold seqIndex?
 simp
def YB (K:PySem.W.Frag):Sp:=fun vs H Q _=>∃ (l1 l2:Addr) (zs1 zs2:List V) (xs1 xs2:List (Rat × Pr)),vs=[.ref l1,.ref l2]/\H l1=some (.lst zs1)/\H l2=some (.lst zs2)/\Al2 (HtH K H) zs1 xs1/\Al2 (HtH K H) zs2 xs2/\xs1.length+xs2.length<=60/\∀ (l:Addr) (zs:List V) (H1:Hp),Same H H1->H1 l=some (.lst zs)->Al2 (HtH K H1) zs (mrgQ xs1 xs2)->Q (.ref l) H1
theorem jw:FnScope ["one","other","found","rows"] ["one","other"] (zD (top 82)):=⟨rfl,rfl,rfl,by decide+kernel,rfl,by decide+kernel,by decide+kernel⟩
theorem ok_law_merged (D:Df K mg "_law_merged" (top 82) ["one","other"]) (T:Tx K mg C) (F_law_less:Fn P w K mg base 1 "_law_less" ["one","other"] (Zs K)):Fn P w K mg base 2 "_law_merged" ["one","other"] (YB K):=by
 refine D.ok0 jw (fun vs H Q E h=>?_) (fun f cdv A outer s H vs Q E hr h=>?_)
 ·obtain ⟨l1,l2,zs1,zs2,xs1,xs2,rfl,_⟩:=h
  rfl
 obtain ⟨l1,l2,zs1,zs2,xs1,xs2,rfl,h1,h2,al1,al2,l60,k⟩:=h
 refine ⟨_,(zE (zN (i:=2) jw.nd rfl (Or.inl rfl) (zv zB))
   (zE (zN (i:=3) jw.nd rfl (Or.inl rfl) (zv (zA (yW jP (by rfl) T.b_list PyProof.Rows.Boot.«list» (zA (pv 0) zB)) (zA (yW jP (by rfl) T.b_list PyProof.Rows.Boot.«list» (zA (pv 1) zB)) zB))))
   (zE (Zv PassesOwn.never (ZW (zQ (op_neNil (K:=K) rfl (u100 hr)) (zH ix_list (pv 3) zC (fun _ _=>rfl)) (zv zB) (zS _)) (je (zQ (op_neNil (K:=K) rfl (u100 hr)) (zH ix_list (pv 3) zC (fun _ _=>rfl)) (zv zB) (zS _)))).pt (zF (yJ (YE PySem.F.plainAttrs_list PySem.F.slot_list_append PySem.F.type_list_append yn (pv 2) (zA (YE PySem.F.plainAttrs_list PySem.F.slot_list_pop PySem.F.type_list_pop mt_popAt (zH ix_list (pv 3) (yW call_int1 (by rfl) T.b_int PyProof.Rows.Boot.«int» (zA (zL F_law_less (by decide) hr (by rfl) zG (zA (zH ix_tup (zH ix_list (zH ix_list (pv 3) zC (fun _ _=>rfl)) zC (fun _ _=>rfl)) zC (fun _ _=>rfl)) (zA (zH ix_tup (zH ix_list (zH ix_list (pv 3) zC (fun _ _=>rfl)) zC (fun _ _=>rfl)) zC (fun _ _=>rfl)) zB))) zB)) (fun _ _=>rfl)) (zA zC zB)) zB)))))
   (zF (zM (zO op_cat (zO op_cat (pv 2) (zH ix_list (pv 3) zC (fun _ _=>rfl))) (zH ix_list (pv 3) zC (fun _ _=>rfl)))))))),?_⟩
 refine ⟨by show 0<=sizeLine; decide,?_⟩
 intro p1 n1
 obtain ⟨H1,q1,s1,e1⟩:=newO n1 (.lst [])
 rw [q1]
 clear q1
 refine ⟨_,rfl,l1,zs1,rfl,.inl (SqL.of (s1 _ _ h1)),?_⟩
 intro p2 n2
 obtain ⟨H2,q2,s2,e2⟩:=newO n2 (.lst zs1)
 rw [q2]
 clear q2
 refine ⟨_,rfl,l2,zs2,rfl,.inl (SqL.of ((s1.trans s2) _ _ h2)),?_⟩
 intro p3 n3
 obtain ⟨H3,q3,s3,e3⟩:=newO n3 (.lst zs2)
 rw [q3]
 clear q3
 refine ⟨by show 2<=sizeLine; decide,?_⟩
 intro p4 n4
 obtain ⟨H4,q4,s4,e4⟩:=newO n4 (.lst [.ref p2,.ref p3])
 rw [q4]
 clear q4
 have n12:p1≠p2:=zI e1 n2
 have n13:p1≠p3:=zI (s2 _ _ e1) n3
 have n23:p2≠p3:=zI e2 n3
 have n14:p1≠p4:=zI ((s2.trans s3) _ _ e1) n4
 have n24:p2≠p4:=zI (s3 _ _ e2) n4
 have n34:p3≠p4:=zI e3 n4
 have s14:=s1.trans (s2.trans (s3.trans s4))
 have f1:=n1
 have f2:=s1.free n2
 have f3:=(s1.trans s2).free n3
 clear n1 n2 n3 n4
 refine ⟨fun m σ' H'=>∃ (fs ys zs:List V) (fx yx zx:List (Rat × Pr)),σ'=[some (.ref l1),some (.ref l2),some (.ref p1),some (.ref p4)]/\Buts [p1,p2,p3] H4 H'/\H' p1=some (.lst fs)/\H' p2=some (.lst ys)/\H' p3=some (.lst zs)/\Al2 (HtH K H') fs fx/\Al2 (HtH K H') ys yx/\Al2 (HtH K H') zs zx/\fx++mrgQ yx zx=mrgQ xs1 xs2/\fx.length+yx.length+zx.length=xs1.length+xs2.length/\m=yx.length+zx.length,⟨_,[],zs1,zs2,[],xs1,xs2,rfl,Buts.refl,(s2.trans (s3.trans s4)) _ _ e1,(s3.trans s4) _ _ e2,s4 _ _ e3,trivial,ze al1 s14,ze al2 s14,rfl,by simp,rfl⟩,?_⟩
 rintro m σ' H5 ⟨fs,ys,zs,fx,yx,zx,rfl,b5,hf,hy,hz,af,ay,az,eq,len,rfl⟩
 have e4':H5 p4=some (.lst [.ref p2,.ref p3]):=b5 _ _ (by simp [Ne.symm n14,Ne.symm n24,Ne.symm n34]) e4
 have fin:(yx=[]\/zx=[])->fx++yx++zx=mrgQ xs1 xs2:=fun h=>by
  rw [<- eq,List.append_assoc]
  rcases h with rfl|rfl
  ·rw [mrg_nil]; rfl
  ·rw [mrg_nil2,List.append_nil]
 have lf:=Al2.len af
 have ly:=Al2.len ay
 have lz:=Al2.len az
 have last:(yx=[]\/zx=[])->∀ (H6:Hp),Same H5 H6->∀ p7,H6 p7=none->∀ H7,Same H6 H7->H7 p7=some (.lst (fs++ys++zs))->Q (.ref p7) H7:=fun h H6 s6 p7 _ H7 s7 e7=>by
  have s57:=s6.trans s7
  refine k p7 _ H7 (fun a o ha=>s57 a o (b5 a o ?_ (s14 a o ha))) e7 ?_
  ·simp only [List.mem_cons,List.not_mem_nil,or_false,not_or]
   exact ⟨zI ha f1,zI ha f2,zI ha f3⟩
  ·rw [<- fin h]
   exact Al2.app (Al2.app (ze af s57) (ze ay s57)) (ze az s57)
 refine ⟨_,rfl,p4,_,_,_,rfl,rfl,SqL.of e4',rfl,by show 0<=sizeLine; decide,?_⟩
 intro p6 n6
 obtain ⟨H6,q6,s6,e6⟩:=newO n6 (.lst [])
 rw [q6]
 clear q6
 refine ⟨p2,p6,ys,rfl,rfl,SqL.of (s6 _ _ hy),SqL.of e6,_,rfl,?_⟩
 cases yx with
 |nil=>
  cases ys with
  |cons vx ys=>exact ay.elim
  |nil=>
  refine iteF (iteF ?_)
  have q4x:=s6 _ _ e4'
  refine ⟨_,rfl,_,rfl,p4,_,_,_,rfl,rfl,SqL.of q4x,rfl,p1,p2,fs,_,rfl,rfl,s6 _ _ hf,s6 _ _ hy,by rw [sizeLine_eq]; omega,?_⟩
  intro p18 n18
  obtain ⟨H18,q18,s18,e18⟩:=newO n18 (.lst (fs++[]))
  rw [q18]
  clear q18
  have q4y:=(s6.trans s18) _ _ e4'
  refine ⟨_,rfl,p4,_,_,_,rfl,rfl,SqL.of q4y,rfl,p18,p3,fs++[],_,rfl,rfl,e18,(s6.trans s18) _ _ hz,by rw [List.length_append,sizeLine_eq]; omega,?_⟩
  intro p19 n19
  obtain ⟨H19,q19,s19,e19⟩:=newO n19 (.lst (fs++[]++zs))
  rw [q19]
  clear q19
  exact last (.inl rfl) H18 (s6.trans s18) p19 n19 H19 s19 e19
 |cons tx yx=>
  cases ys with
  |nil=>exact ay.elim
  |cons vx ys=>
  refine iteT ?_
  have q46:=s6 _ _ e4'
  refine ⟨_,rfl,p4,_,_,_,rfl,rfl,SqL.of q46,rfl,by show 0<=sizeLine; decide,?_⟩
  intro p7 n7
  obtain ⟨H7,q7,s7,e7⟩:=newO n7 (.lst [])
  rw [q7]
  clear q7
  have s57:=s6.trans s7
  refine ⟨p3,p7,zs,rfl,rfl,SqL.of (s57 _ _ hz),SqL.of e7,_,rfl,?_⟩
  cases zx with
  |nil=>
   cases zs with
   |cons vy zs=>exact az.elim
   |nil=>
   refine iteF ?_
   have q4x:=s57 _ _ e4'
   refine ⟨_,rfl,_,rfl,p4,_,_,_,rfl,rfl,SqL.of q4x,rfl,p1,p2,fs,_,rfl,rfl,s57 _ _ hf,s57 _ _ hy,by rw [sizeLine_eq]; omega,?_⟩
   intro p18 n18
   obtain ⟨H18,q18,s18,e18⟩:=newO n18 (.lst (fs++(vx::ys)))
   rw [q18]
   clear q18
   have q4y:=(s57.trans s18) _ _ e4'
   refine ⟨_,rfl,p4,_,_,_,rfl,rfl,SqL.of q4y,rfl,p18,p3,fs++(vx::ys),_,rfl,rfl,e18,(s57.trans s18) _ _ hz,by rw [List.length_append,sizeLine_eq]; omega,?_⟩
   intro p19 n19
   obtain ⟨H19,q19,s19,e19⟩:=newO n19 (.lst (fs++(vx::ys)++[]))
   rw [q19]
   clear q19
   exact last (.inr rfl) H18 (s57.trans s18) p19 n19 H19 s19 e19
  |cons ty zx=>
   cases zs with
   |nil=>exact az.elim
   |cons vy zs=>
   refine iteT ⟨_,fun _ _ n=>n,?_⟩
   obtain ⟨rx,ax,rfl,hx,gx,fx1⟩:=ay.1
   obtain ⟨ry,ay',rfl,hy1,gy,fy1⟩:=az.1
   have e47:=s57 _ _ e4'
   have hf7:=s57 _ _ hf
   have hy7:=s57 _ _ hy
   have hz7:=s57 _ _ hz
   refine ⟨_,rfl,.inl ⟨rfl,_,SqL.of hf7⟩,_,rfl,_,rfl,p4,_,_,_,rfl,rfl,SqL.of e47,rfl,p3,_,_,_,rfl,rfl,SqL.of hz7,zr (j:=0) rfl,ry,_,_,_,rfl,rfl,Kw.Same.tup s57 hy1,rfl,_,rfl,p4,_,_,_,rfl,rfl,SqL.of e47,rfl,p2,_,_,_,rfl,rfl,SqL.of hy7,zr (j:=0) rfl,rx,_,_,_,rfl,rfl,Kw.Same.tup s57 hx,rfl,_,_,_,_,rfl,Kw.Same.tup s57 gy,fy1.mono (by decide),Kw.Same.tup s57 gx,fx1.mono (by decide),fun H8 s8=>?_⟩
   have s58:=s57.trans s8
   have b8:Buts [p1,p2,p3] H4 H8:=b5.trans (Buts.of s58)
   have af8:=ze af s58
   have ay8:=ze ay s58
   have az8:=ze az s58
   have hf8:=s58 _ _ hf
   have hy8:=s58 _ _ hy
   have hz8:=s58 _ _ hz
   by_cases c:ty.1 < tx.1
   ·rw [decide_eq_true c]
    refine .inr ⟨_,rfl,p4,_,_,_,rfl,rfl,SqL.of (s58 _ _ e4'),rfl,.inl ⟨rfl,_,SqL.of hz8⟩,p3,_,_,0,_,rfl,rfl,hz8,by decide,by decide,pop0,rfl,?_⟩
    obtain ⟨H9,q9,b9,e9⟩:=newB (H:=H8) (p:=p3) (.lst zs)
    dsimp only
    rw [show ((V.ref ry::zs).eraseIdx 0)=zs from rfl,q9]
    clear q9
    have hf9:=b9 _ _ n13 hf8
    refine ⟨p1,fs,_,rfl,rfl,hf9,by rw [sizeLine_eq]; simp at len lf; omega,?_⟩
    obtain ⟨H10,q10,b10,e10⟩:=newB (H:=H9) (p:=p1) (.lst (fs++[.ref ry]))
    rw [q10]
    clear q10
    have m1:Al2 (HtH K H10) (.ref rx::ys) (tx::yx):=yX (yX ay8 b9 hz8) b10 hf9
    have m2:Al2 (HtH K H10) (.ref ry::zs) (ty::zx):=yX (yX az8 b9 hz8) b10 hf9
    refine ⟨_,?_,fs++[.ref ry],.ref rx::ys,zs,fx++[ty],tx::yx,zx,rfl,b8.trans ((Buts.one b9 (by simp)).trans (Buts.one b10 (by simp))),e10,b10 _ _ (Ne.symm n12) (b9 _ _ n23 hy8),b10 _ _ (Ne.symm n13) e9,Al2.snoc (yX (yX af8 b9 hz8) b10 hf9) m2.1,m1,m2.2,?_,?_,rfl⟩
    ·simp
    ·rw [<- eq,mrg_cons,if_pos c,List.append_assoc]; rfl
    ·simp at len ⊢; omega
   ·rw [decide_eq_false c]
    refine .inr ⟨_,rfl,p4,_,_,_,rfl,rfl,SqL.of (s58 _ _ e4'),rfl,.inl ⟨rfl,_,SqL.of hy8⟩,p2,_,_,0,_,rfl,rfl,hy8,by decide,by decide,pop0,rfl,?_⟩
    obtain ⟨H9,q9,b9,e9⟩:=newB (H:=H8) (p:=p2) (.lst ys)
    dsimp only
    rw [show ((V.ref rx::ys).eraseIdx 0)=ys from rfl,q9]
    clear q9
    have hf9:=b9 _ _ n12 hf8
    refine ⟨p1,fs,_,rfl,rfl,hf9,by rw [sizeLine_eq]; simp at len lf; omega,?_⟩
    obtain ⟨H10,q10,b10,e10⟩:=newB (H:=H9) (p:=p1) (.lst (fs++[.ref rx]))
    rw [q10]
    clear q10
    have m1:Al2 (HtH K H10) (.ref rx::ys) (tx::yx):=yX (yX ay8 b9 hy8) b10 hf9
    have m2:Al2 (HtH K H10) (.ref ry::zs) (ty::zx):=yX (yX az8 b9 hy8) b10 hf9
    refine ⟨_,?_,fs++[.ref rx],ys,.ref ry::zs,fx++[tx],yx,ty::zx,rfl,b8.trans ((Buts.one b9 (by simp)).trans (Buts.one b10 (by simp))),e10,b10 _ _ (Ne.symm n12) e9,b10 _ _ (Ne.symm n13) (b9 _ _ (Ne.symm n23) hz8),Al2.snoc (yX (yX af8 b9 hy8) b10 hf9) m1.1,m1.2,m2,?_,?_,rfl⟩
    ·simp
    ·rw [<- eq,mrg_cons,if_neg c,List.append_assoc]; rfl
    ·simp at len ⊢; omega
theorem Yo {e:Nat} {ms:List (Rat × Pr)} {m:Rat × Pr} {s:Rat}:spF e (ms++[m]) s=if m.2.1=e then -(spF e ms s) else spF e ms s:=by
 unfold spF
 rw [List.foldl_append]
 rfl
def JO (K:PySem.W.Frag):Sp:=fun vs H Q _=>∃ (z:V) (b:Bq) (l:Addr) (zs:List V) (ms:List (Rat × Pr)),vs=[z,.ref l]/\BqH K 28 H z b/\H l=some (.lst zs)/\Al2 (HtH K H) zs ms/\(∀ m∈ms,m.2.1<=1)/\ms.length<=100/\∀ (l2 a0 a1:Addr) (H1:Hp),Same H H1->H1 l2=some (.lst [.ref a0,.ref a1])->FQ K H1 a0 (spF 0 ms b.u)->FQ K H1 a1 (spF 1 ms b.v)->Q (.ref l2) H1
theorem yq:FnScope ["one","hits","speeds","time","way","near","far"] ["one","hits"] (zD (top 83)):=⟨rfl,rfl,rfl,by decide+kernel,rfl,by decide+kernel,by decide+kernel⟩
theorem ok_law_sped (D:Df K mg "_law_sped" (top 83) ["one","hits"]) (T:Tx K mg C):Fn P w K mg base 1 "_law_sped" ["one","hits"] (JO K):=by
 refine D.ok0 yq (fun vs H Q E h=>?_) (fun f cdv A outer s H vs Q E hr h=>?_)
 ·obtain ⟨z,b,l,zs,ms,rfl,_⟩:=h
  rfl
 obtain ⟨z,b,l,zs,ms,rfl,hz,hl,al,hw,l100,k⟩:=h
 refine ⟨_,(zE (zN (i:=2) yq.nd rfl (Or.inl rfl) (zv (zA (zH ix_tup (pv 0) zC (fun _ _=>rfl)) (zA (zH ix_tup (pv 0) zC (fun _ _=>rfl)) zB))))
   (zE (yF PassesOwn.never rfl (yU (pv 1)) (pg_tup rfl (ye (za (i:=3) yq.nd rfl (Or.inl rfl)) (ye (za (i:=4) yq.nd rfl (Or.inl rfl)) (ye (za (i:=5) yq.nd rfl (Or.inl rfl)) (ye (za (i:=6) yq.nd rfl (Or.inl rfl)) pgs_nil))))) (zF (YK (zR (zA (zO Zu zC (zH ix_tup (zH ix_list (pv 2) (pv 4) (fun _ _=>rfl)) zC (fun _ _=>rfl))) (zA (zH ix_tup (zH ix_list (pv 2) (pv 4) (fun _ _=>rfl)) zC (fun _ _=>rfl)) zB))) (Y0 (pv 2) (pv 4) j2))))
   (zF (zM (pv 2))))),?_⟩
 obtain ⟨p,a0,a1,a2,a3,a4,a5,rfl,hp,⟨g0,g1,g2,g3,g4,g5⟩,_,_⟩:=hz
 have lz:=Al2.len al
 refine ⟨_,rfl,p,_,_,_,rfl,rfl,hp,rfl,_,rfl,p,_,_,_,rfl,rfl,hp,rfl,by show 2<=sizeLine; decide,?_⟩
 intro p1 n1
 obtain ⟨H1,q1,s1,e1⟩:=newO n1 (.lst [.ref a4,.ref a5])
 rw [q1]
 clear q1
 have hl1:=s1 _ _ hl
 have nl:l≠p1:=zI hl n1
 have nf:=n1
 have nt1:NoT [p1] H1:=NoT.lst e1 NoT.nil
 refine ⟨_,rfl,l,rfl,⟨_,SqL.of hl1⟩,j1 (K:=K) (xs:=zs) (fun i σ' H'=>∃ (u3 u4 u5 u6:Option V) (c0 c1:Addr),σ'=[some (.ref p),some (.ref l),some (.ref p1),u3,u4,u5,u6]/\But p1 H1 H'/\H' p1=some (.lst [.ref c0,.ref c1])/\FQ K H' c0 (spF 0 (ms.take i) b.u)/\FQ K H' c1 (spF 1 (ms.take i) b.v)) ⟨_,_,_,_,a4,a5,rfl,But.refl _,e1,Kw.Same.tup s1 g4,Kw.Same.tup s1 g5⟩ (by rintro _ _ _ _ ⟨_,_,_,_,_,_,_,g,_⟩; exact SqL.of (g _ _ nl hl1)) ?_ ?_⟩
 ·rintro i v σ' H2 hv ⟨u3,u4,u5,u6,c0,c1,rfl,b2,e2,k0,k1⟩
  have bs2:Buts [p1] H1 H2:=Buts.one b2 (by simp)
  obtain ⟨m,hm,pv,pt,rfl,hpv,gt,ft⟩:=Al2.get (ze al s1) hv
  have hpv2:=bs2.tup nt1 hpv
  have way:=hw m (List.mem_of_getElem? hm)
  refine ⟨pv,_,rfl,hpv2,rfl,_,_,rfl,_,_,rfl,_,_,rfl,_,_,rfl,rfl,?_⟩
  rcases d01 way with e|e
  ·have i1:atI [V.ref c0,.ref c1] (m.2.1:Int)=some (.ref c0):=by rw [e]; rfl
   have kk:SqT K H2 c0 [.int (spF 0 (ms.take i) b.u).num,.int (((spF 0 (ms.take i) b.u).den:Nat):Int)]:=k0
   refine ⟨_,rfl,_,rfl,p1,_,_,_,rfl,rfl,SqL.of e2,i1,c0,_,_,_,rfl,rfl,kk,rfl,_,_,rfl,rfl,_,rfl,_,rfl,p1,_,_,_,rfl,rfl,SqL.of e2,i1,c0,_,_,_,rfl,rfl,kk,rfl,by show 2<=sizeLine; decide,?_⟩
   intro p3 n3
   obtain ⟨H3,q3,s3,e3⟩:=newO n3 (.tup [.int (0 - (spF 0 (ms.take i) b.u).num),.int (((spF 0 (ms.take i) b.u).den:Nat):Int)])
   rw [q3]
   clear q3
   have g3:FQ K H3 p3 (-(spF 0 (ms.take i) b.u)):=FQ.neg (SqT.of e3)
   have e23:=s3 _ _ e2
   refine ⟨_,rfl,_,rfl,p1,_,_,m.2.1,rfl,rfl,e23,Jf (by show m.2.1 < 2; omega),?_⟩
   obtain ⟨H4,q4,b4,e4⟩:=newB (H:=H3) (p:=p1) (.lst ([V.ref c0,.ref c1].set m.2.1 (.ref p3)))
   dsimp only
   rw [q4]
   clear q4
   rw [e] at e4
   refine ⟨_,_,_,_,p3,c1,rfl,b2.trans ((But.of s3).trans b4),e4,(by rw [zY hm,Yo,if_pos e]; exact But.tup b4 e23 g3),(by rw [zY hm,Yo,if_neg (by omega)]; exact But.tup b4 e23 (Kw.Same.tup s3 k1))⟩
  ·have i1:atI [V.ref c0,.ref c1] (m.2.1:Int)=some (.ref c1):=by rw [e]; rfl
   have kk:SqT K H2 c1 [.int (spF 1 (ms.take i) b.v).num,.int (((spF 1 (ms.take i) b.v).den:Nat):Int)]:=k1
   refine ⟨_,rfl,_,rfl,p1,_,_,_,rfl,rfl,SqL.of e2,i1,c1,_,_,_,rfl,rfl,kk,rfl,_,_,rfl,rfl,_,rfl,_,rfl,p1,_,_,_,rfl,rfl,SqL.of e2,i1,c1,_,_,_,rfl,rfl,kk,rfl,by show 2<=sizeLine; decide,?_⟩
   intro p3 n3
   obtain ⟨H3,q3,s3,e3⟩:=newO n3 (.tup [.int (0 - (spF 1 (ms.take i) b.v).num),.int (((spF 1 (ms.take i) b.v).den:Nat):Int)])
   rw [q3]
   clear q3
   have g3:FQ K H3 p3 (-(spF 1 (ms.take i) b.v)):=FQ.neg (SqT.of e3)
   have e23:=s3 _ _ e2
   refine ⟨_,rfl,_,rfl,p1,_,_,m.2.1,rfl,rfl,e23,Jf (by show m.2.1 < 2; omega),?_⟩
   obtain ⟨H4,q4,b4,e4⟩:=newB (H:=H3) (p:=p1) (.lst ([V.ref c0,.ref c1].set m.2.1 (.ref p3)))
   dsimp only
   rw [q4]
   clear q4
   rw [e] at e4
   refine ⟨_,_,_,_,c0,p3,rfl,b2.trans ((But.of s3).trans b4),e4,(by rw [zY hm,Yo,if_neg (by omega)]; exact But.tup b4 e23 (Kw.Same.tup s3 k0)),(by rw [zY hm,Yo,if_pos e]; exact But.tup b4 e23 g3)⟩
 ·rintro σ' H2 ⟨u3,u4,u5,u6,c0,c1,rfl,b2,e2,k0,k1⟩
  rw [lz,List.take_length] at k0 k1
  exact ⟨_,rfl,k p1 c0 c1 H2 (fun a o ha=>b2 _ _ (zI ha nf) (s1 _ _ ha)) e2 k0 k1⟩
theorem scn_len:∀ (n:Nat) (l:List (Rat × Pr)),(scnQ n l).2.length<=l.length
 |n,[]=>by unfold scnQ; exact Nat.zero_le _
 |0,x::xs=>by unfold scnQ; exact Nat.zero_le _
 |n+1,x::xs=>by
  unfold scnQ
  split
  ·exact Nat.zero_le _
  ·have:=scn_len n xs
   simp only [List.length_cons]
   omega
theorem scn_word:∀ (n:Nat) (l:List (Rat × Pr)),(scnQ n l).1="still"\/(scnQ n l).1="more"\/(scnQ n l).1="crowd"
 |n,[]=>by unfold scnQ; exact .inl rfl
 |0,x::xs=>by unfold scnQ; exact .inr (.inl rfl)
 |n+1,x::xs=>by
  unfold scnQ
  split
  ·exact .inr (.inr rfl)
  ·exact scn_word n xs
theorem mps_dp {K:PySem.W.Frag} {H:Hp}:∀ {vs:List V} {ms:List (Rat × Pr)},Al2 (MtP K H) vs ms->Dps K H vs (ms.map mpD)
 |[],[],_=>.nil
 |_::_,_::_,z=>by
  obtain ⟨⟨p,a,rfl,h1,h2,_⟩,r⟩:=z
  exact .cons (.tup h1 (.cons h2.dp (.cons (.str _) (.cons (.int _) (.cons (.int _) .nil))))) (mps_dp r)
 |[],_::_,z=>z.elim
 |_::_,[],z=>z.elim
theorem told_dpP {K:PySem.W.Frag} {H:Hp} {r:Addr} {wd:String} {ms:List (Rat × Pr)} {es:List Bq} {last:Rat} (h:ToldP K H r wd ms es last):Dp K H (.ref r) (tlpD wd ms (es.map (atB last)) last):=by
 obtain ⟨rr,rb,rn,zs,ws,h1,h2,h3,h4,h5,h6,_⟩:=h
 exact .tup h1 (.cons (.str _) (.cons (.lst (SqL.of h2) (mps_dp h3)) (.cons (.lst (SqL.of h4) (bqs_dp h5)) (.cons h6.dp .nil))))
def dueD (R:Rat × Rat) (b:Bq) (m:Nat):PyData:=tlpD (scnQ m (allH R b m)).1 (scnQ m (allH R b m)).2 [thB R b (scnQ m (allH R b m)).2 (lstT 0 (scnQ m (allH R b m)).2)] (lstT 0 (scnQ m (allH R b m)).2)
theorem due_ok (R:Rat × Rat) (b:Bq) (m:Nat):(dueD R b m).canLay0=true/\Nat.ble (dueD R b m).depth 60=true:=by
 unfold dueD
 rcases scn_word m (allH R b m) with e|e|e<;>rw [e]
 ·exact tlp_ok (.inl rfl) _ _ _
 ·exact tlp_ok (.inr (.inl rfl)) _ _ _
 ·exact tlp_ok (.inr (.inr rfl)) _ _ _
theorem told_due {R:Rat × Rat} {b:Bq} {m:Nat} {wd:String} {ms:List (Rat × Pr)} {es:List Bq} {last:Rat} (r:RunP R [b] 0 m wd ms es last) (one:OneQ R b):tlpD wd ms (es.map (atB last)) last=dueD R b m:=by
 obtain ⟨e1,e2,e3,e4⟩:=run_one r one.in1 one.gd one.cm
 rw [e4]
 subst e3
 subst e2
 subst e1
 rfl
def ScJ (hs:List (Rat × Pr)) (m k:Nat) (wd:String) (gx:List (Rat × Pr)):Prop:=(hs=[]/\wd="still"/\gx=[])\/(hs≠[]/\wd="more"/\gx=hs.take m/\∀ j,j < k->∀ a b,hs[j]?=some a->hs[j+1]?=some b->a.1≠b.1)\/(wd="crowd"/\scnQ m hs=("crowd",gx))
def zAE (K:PySem.W.Frag):Sp:=fun vs H Q _=>∃ (rp r0 r1:Addr) (R:Rat × Rat) (z:V) (b:Bq) (m:Nat),vs=[.ref rp,z,.int (m:Int)]/\SqT K H rp [.ref r0,.ref r1]/\FQ K H r0 R.1/\FQ K H r1 R.2/\BqH K 28 H z b/\OneQ R b/\m<=20/\∀ (t:Addr) (H1:Hp),Same H H1->Dp K H1 (.ref t) (dueD R b m)->Q (.ref t) H1
theorem zi:FnScope ["room","one","most","hits","word","gone","k","now","speeds","places","there","run"] ["room","one","most"] (zD (top 84)):=⟨rfl,rfl,rfl,by decide+kernel,rfl,by decide+kernel,by decide+kernel⟩
theorem ok_law_due (D:Df K mg "_law_due" (top 84) ["room","one","most"]) (T:Tx K mg C) (F_law_merged:Fn P w K mg base 2 "_law_merged" ["one","other"] (YB K)) (F_law_hits:Fn P w K mg base 3 "_law_hits" ["room","one","way","most"] (JS K)) (F_law_sped:Fn P w K mg base 1 "_law_sped" ["one","hits"] (JO K)) (F_law_place:Fn P w K mg base 3 "_law_place" ["room","one","way","time"] (YX K)):Fn P w K mg base 4 "_law_due" ["room","one","most"] (zAE K):=by
 refine D.ok0 zi (fun vs H Q E h=>?_) (fun f cdv A outer s H vs Q E hr h=>?_)
 ·obtain ⟨rp,r0,r1,R,z,b,m,rfl,_⟩:=h
  rfl
 obtain ⟨rp,r0,r1,R,z,b,m,rfl,hrm,gr0,gr1,hz,one,m20,k⟩:=h
 refine ⟨_,(zE (zN (i:=3) zi.nd rfl (Or.inl rfl) (zL F_law_merged (by decide) hr (by rfl) zG (zA (zL F_law_hits (by decide) hr (by rfl) zG (zA (pv 0) (zA (pv 1) (zA zC (zA (pv 2) zB))))) (zA (zL F_law_hits (by decide) hr (by rfl) zG (zA (pv 0) (zA (pv 1) (zA zC (zA (pv 2) zB))))) zB))))
   (zE (zN (i:=4) zi.nd rfl (Or.inl rfl) ZH)
   (zE (zN (i:=5) zi.nd rfl (Or.inl rfl) (Yi sl_list (pv 3) JW (Jk (pv 2))))
   (zE (zh (zQ (op_eqNil (K:=K) rfl (u100 hr)) (pv 3) (zv zB) (zS _)) (zF (zN (i:=4) zi.nd rfl (Or.inl rfl) ZH)) zU)
   (zE (yF PassesOwn.never rfl (yL (by rfl) T.b_range (zA (zV yG (by rfl) T.b_len PyProof.Rows.Boot.«len» (zA (pv 5) zB)) zB)) (za (i:=6) zi.nd rfl (Or.inl rfl)) (zF (zh (ZW (zQ ZB (pv 4) ZH (zS _)) (ZW (zQ Yh (zO zj (pv 6) zC) (zV yG (by rfl) T.b_len PyProof.Rows.Boot.«len» (zA (pv 3) zB)) (zS _)) (je (zQ (op_eqQ (K:=K) rfl (u100 hr)) (zH ix_tup (zH ix_list (pv 3) (pv 6) (fun _ _=>rfl)) zC (fun _ _=>rfl)) (zH ix_tup (zH ix_list (pv 3) (zO zj (pv 6) zC) (fun _ _=>rfl)) zC (fun _ _=>rfl)) (zS _))))).pt (zE (zN (i:=4) zi.nd rfl (Or.inl rfl) ZH)
   (zF (zN (i:=5) zi.nd rfl (Or.inl rfl) (Yi sl_list (pv 5) JW (Jk (pv 6)))))) zU)))
   (zE (zN (i:=7) zi.nd rfl (Or.inl rfl) (zR (zA zC (zA zC zB))))
   (zE (zh (zQ (op_neNil (K:=K) rfl (u100 hr)) (pv 5) (zv zB) (zS _)) (zF (zN (i:=7) zi.nd rfl (Or.inl rfl) (zH ix_tup (zH ix_list (pv 5) (YS ZO zC) (fun _ _=>rfl)) zC (fun _ _=>rfl)))) zU)
   (zE (zN (i:=8) zi.nd rfl (Or.inl rfl) (zL F_law_sped (by decide) hr (by rfl) zG (zA (pv 1) (zA (pv 5) zB))))
   (zE (zN (i:=9) zi.nd rfl (Or.inl rfl) (zv (zA (zH ix_tup (zL F_law_place (by decide) hr (by rfl) zG (zA (pv 0) (zA (pv 1) (zA zC (zA (pv 7) zB))))) zC (fun _ _=>rfl)) (zA (zH ix_tup (zL F_law_place (by decide) hr (by rfl) zG (zA (pv 0) (zA (pv 1) (zA zC (zA (pv 7) zB))))) zC (fun _ _=>rfl)) zB))))
   (zE (zN (i:=10) zi.nd rfl (Or.inl rfl) (zR (zA (zH ix_list (pv 9) zC (fun _ _=>rfl)) (zA (zH ix_list (pv 9) zC (fun _ _=>rfl)) (zA (zH ix_tup (pv 1) zC (fun _ _=>rfl)) (zA (zH ix_tup (pv 1) zC (fun _ _=>rfl)) (zA (zH ix_list (pv 8) zC (fun _ _=>rfl)) (zA (zH ix_list (pv 8) zC (fun _ _=>rfl)) (zA (zH ix_tup (pv 1) zC (fun _ _=>rfl)) zB)))))))))
   (zE (@ps_lcG _ _ _ _ _ ["time","way","near","far"] _ _ _ _ _ _ _ [] [] 11 _ _ _ zi.nd rfl rfl rfl rfl (yU (pv 5)) rfl (by decide) rfl (by decide) (fun C z Hc fp=>pg_tupK (K:=K) rfl (n:=4) rfl (ye (za (i:=0) (show ((["time","way","near","far"]:List Str)++([]:List Str)).Nodup by decide) rfl (.inl (lookup_relabel_local rfl)) (.inr (lookup_relabel_local rfl))) (ye (za (i:=1) (show ((["time","way","near","far"]:List Str)++([]:List Str)).Nodup by decide) rfl (.inl (lookup_relabel_local rfl)) (.inr (lookup_relabel_local rfl))) (ye (za (i:=2) (show ((["time","way","near","far"]:List Str)++([]:List Str)).Nodup by decide) rfl (.inl (lookup_relabel_local rfl)) (.inr (lookup_relabel_local rfl))) (ye (za (i:=3) (show ((["time","way","near","far"]:List Str)++([]:List Str)).Nodup by decide) rfl (.inl (lookup_relabel_local rfl)) (.inr (lookup_relabel_local rfl))) pgs_nil))))) Zz (fun _ _ h=>nomatch h) (Yu rfl) (fun C z Hc fp=>pts_nil) (fun C z Hc fp=>(zR (zA (pv 0) (zA (zH (ixL (K:=K) rfl) (zv (zA ZH (zA ZH zB))) (pv 1) (fun _ _=>rfl)) (zA (pv 2) (zA (pv 3) zB)))))) (fun _=>rfl))
   (zF (zM (zR (zA (pv 4) (zA (pv 11) (zA (zv (zA (pv 10) zB)) (zA (pv 7) zB)))))))))))))))))),?_⟩
 obtain ⟨rmq,sw,sh,px,py,su,sv,_⟩:=id one
 obtain ⟨rx,ry,rw',rh,ru,rv⟩:=one.rt
 obtain ⟨p,a0,a1,a2,a3,a4,a5,rfl,hp,⟨g0,g1,g2,g3,g4,g5⟩,_,_⟩:=id hz
 have fr0:FB 20 R.1:=rmq.2.2.1.fb (by decide) (by decide)
 have fr1:FB 20 R.2:=rmq.2.2.2.fb (by decide) (by decide)
 have fw:FB 28 b.w:=rw'.f28
 have fh:FB 28 b.h:=rh.f28
 have fu:FB 4 b.u:=sp_f4 su
 have fv:FB 4 b.v:=sp_f4 sv
 refine ⟨_,rfl,_,rfl,_,rfl,rp,r0,r1,R,_,b,0,m,rfl,hrm,gr0,gr1,fr0,fr1,hz,fw,fh,fu,fv,by decide,m20,fun l1 zs1 H1 s1 n1 e1 al1=>?_⟩
 refine ⟨_,rfl,_,rfl,_,rfl,rp,r0,r1,R,_,b,1,m,rfl,Kw.Same.tup s1 hrm,Kw.Same.tup s1 gr0,Kw.Same.tup s1 gr1,fr0,fr1,hz.same s1,fw,fh,fu,fv,by decide,m20,fun l2 zs2 H2 s2 n2 e2 al2=>?_⟩
 obtain ⟨lenA,lenB⟩:=all_len (R:=R) (b:=b) (m:=m)
 refine ⟨l1,l2,zs1,zs2,_,_,rfl,s2 _ _ e1,e2,ze al1 s2,al2,?_,fun l3 zs3 H3 s3 e3 al3=>?_⟩
 ·have z:=lenB
  unfold allH at z
  rw [Jb] at z
  omega
 replace al3:Al2 (HtH K H3) zs3 (allH R b m):=al3
 have way0:=all_way (R:=R) (b:=b) (m:=m)
 generalize ehs:allH R b m=hs at al3 lenA lenB way0
 have lz3:=Al2.len al3
 have nil3:hs=[]->zs3=[]:=fun c=>List.eq_nil_of_length_eq_zero (by rw [lz3,c]; rfl)
 refine ⟨_,rfl,_,rfl,_,rfl,l3,_,rfl,SqL.of e3,?_⟩
 intro p4 n4
 obtain ⟨H4,q4,s4,e4⟩:=newO n4 (.lst (cutV zs3 none (some (m:Int))))
 rw [q4]
 clear q4
 rw [cut_all13] at e4
 have e34:=s4 _ _ e3
 have al34:=ze al3 s4
 refine g_go ?_
 dsimp only
 refine cut1 (fun σ' H'=>∃ wd:String,σ'=[some (.ref rp),some (.ref p),some (.int (m:Int)),some (.ref l3),some (strV wd),some (.ref p4),none,none,none,none,none,none]/\Same H4 H'/\((hs=[]/\wd="still")\/(hs≠[]/\wd="more"))) (fun N hN=>?_) ?_
 ·refine ⟨_,rfl,by show 0<=sizeLine; decide,?_⟩
  intro p5 n5
  obtain ⟨H5,q5,s5,e5⟩:=newO n5 (.lst [])
  rw [q5]
  clear q5
  refine ⟨l3,p5,zs3,rfl,rfl,SqL.of (s5 _ _ e34),SqL.of e5,_,rfl,?_⟩
  by_cases c:hs=[]
  ·exact iteTz (by rw [nil3 c]; rfl) (hN _ _ ⟨"still",rfl,s5,.inl ⟨c,rfl⟩⟩)
  ·refine iteFz ?_ (hN _ _ ⟨"more",rfl,s5,.inr ⟨c,rfl⟩⟩)
   cases zs3 with
   |nil=>exact absurd (List.eq_nil_of_length_eq_zero (by rw [<- lz3]; rfl)) c
   |cons _ _=>rfl
 rintro σ' H5 ⟨wd0,rfl,s5,alt0⟩
 have h4:=s5 _ _ e4
 have e35:=s5 _ _ e34
 have al35:=ze al34 s5
 have ltk:(zs3.take m).length<=20:=by rw [List.length_take]; omega
 have ltz:(zs3.take m).length<=zs3.length:=by rw [List.length_take]; omega
 have ltm:(zs3.take m).length<=m:=by rw [List.length_take]; omega
 refine ⟨_,rfl,_,_,rfl,.inl ⟨_,SqL.of h4,rfl⟩,_,rfl,by omega,by omega,yI (n:=(((zs3.take m).length:Nat):Int).toNat) (fun k σ' H'=>∃ (wd:String) (g:Addr) (gz:List V) (gx:List (Rat × Pr)) (uk:Option V),σ'=[some (.ref rp),some (.ref p),some (.int (m:Int)),some (.ref l3),some (strV wd),some (.ref g),uk,none,none,none,none,none]/\Same H5 H'/\H' g=some (.lst gz)/\Al2 (HtH K H') gz gx/\gx.length<=20/\ScJ hs m k wd gx) ⟨wd0,p4,_,hs.take m,_,rfl,Same.refl _,h4,Al2.takeR m al35,by rw [List.length_take]; omega,?_⟩ ?_ ?_⟩
 ·rcases alt0 with ⟨c,rfl⟩|⟨c,rfl⟩
  ·exact .inl ⟨c,rfl,by rw [c]; exact List.take_nil⟩
  ·exact .inr (.inl ⟨c,rfl,rfl,fun j hj=>absurd hj (Nat.not_lt_zero _)⟩)
 ·rintro i σ' H6 hi ⟨wd,g,gz,gx,uk,rfl,s6,hg,ag,gl,J⟩
  rcases J with ⟨e0,_,_⟩|⟨ne,rfl,rfl,far⟩|⟨rfl,sc⟩
  ·have:zs3.length=0:=by rw [nil3 e0]; rfl
   omega
  ·have lge:m+2<=hs.length:=by
    rcases lenA with z|z
    ·exact absurd z ne
    ·exact z
   have im:i < m:=by omega
   have e36:=s6 _ _ e35
   obtain ⟨va,hva⟩:∃ y,zs3[i]?=some y:=⟨_,List.getElem?_eq_getElem (by omega)⟩
   obtain ⟨vb,hvb⟩:∃ y,zs3[i+1]?=some y:=⟨_,List.getElem?_eq_getElem (by omega)⟩
   obtain ⟨xa,hxa,ra,aa,rfl,hra,ga,fa⟩:=Al2.get (ze al35 s6) hva
   obtain ⟨xb,hxb,rb,ab,rfl,hrb,gb,fb⟩:=Al2.get (ze al35 s6) hvb
   have at2:atI zs3 (0+(i:Int)+1)=some (.ref rb):=by
    have z:=zr hvb
    rwa [show ((i+1:Nat):Int)=0+(i:Int)+1 by omega] at z
   refine ⟨_,rfl,rfl,_,rfl,iteTz (by decide) ?_⟩
   refine ⟨_,rfl,_,_,rfl,rfl,_,rfl,_,_,rfl,.inl ⟨_,SqL.of e36,rfl⟩,_,_,rfl,rfl,_,rfl,?_⟩
   refine zb (fun _=>?_) (fun c=>absurd (show 0+(i:Int)+1 < ((zs3.length:Nat):Int) by omega) c)
   refine ⟨_,rfl,_,rfl,l3,_,_,_,rfl,rfl,SqL.of e36,atI_z hva,ra,_,_,_,rfl,rfl,hra,rfl,_,rfl,_,rfl,_,_,rfl,rfl,l3,_,_,_,rfl,rfl,SqL.of e36,at2,rb,_,_,_,rfl,rfl,hrb,rfl,aa,ab,xa.1,xb.1,rfl,rfl,ga,gb,_,rfl,?_⟩
   refine zb (fun c=>?_) (fun c=>?_)
   ·refine ⟨_,rfl,_,rfl,_,rfl,g,_,rfl,SqL.of hg,?_⟩
    intro p7 n7
    obtain ⟨H7,q7,s7,e7⟩:=newO n7 (.lst (cutV gz none (some (0+(i:Int)))))
    rw [q7]
    clear q7
    rw [show 0+(i:Int)=(i:Int) by omega,cut_all13] at e7
    refine ⟨"crowd",p7,gz.take i,(hs.take m).take i,_,rfl,s6.trans s7,e7,Al2.takeR i (ze ag s7),by rw [List.length_take]; omega,.inr (.inr ⟨rfl,?_⟩)⟩
    rw [scn_pre i m hs (by omega) (by omega) far,scn_crowd hxa hxb c im]
    show ("crowd",hs.take i++[])=_
    rw [List.append_nil,List.take_take,Nat.min_eq_left (by omega)]
   ·refine ⟨"more",g,gz,_,_,rfl,s6,hg,ag,gl,.inr (.inl ⟨ne,rfl,rfl,fun j hj a' b' ha' hb'=>?_⟩)⟩
    by_cases z:j=i
    ·subst z
     rw [hxa] at ha'
     rw [hxb] at hb'
     cases ha'
     cases hb'
     exact c
    ·exact far j (by omega) a' b' ha' hb'
  ·refine ⟨_,rfl,rfl,_,rfl,iteFz (by decide) (iteF ?_)⟩
   exact ⟨"crowd",g,gz,gx,_,rfl,s6,hg,ag,gl,.inr (.inr ⟨rfl,sc⟩)⟩
 rintro σ' H6 ⟨wd,g,gz,gx,uk,rfl,s6,hg,ag,gl,J⟩
 have sc:scnQ m hs=(wd,gx):=by
  rcases J with ⟨e0,rfl,rfl⟩|⟨ne,rfl,rfl,far⟩|⟨rfl,sc⟩
  ·rw [e0]
   unfold scnQ
   rfl
  ·have lge:m+2<=hs.length:=by
    rcases lenA with z|z
    ·exact absurd z ne
    ·exact z
   rw [scn_pre m m hs (Nat.le_refl _) (by omega) (fun j hj=>far j (by rw [List.length_take]; omega)),scn_more (by omega)]
   show ("more",hs.take m++[])=_
   rw [List.append_nil]
  ·exact sc
 clear J
 refine ⟨by show 2<=sizeLine; decide,?_⟩
 intro p7 n7
 obtain ⟨H7,q7,s7,e7⟩:=newO n7 (.tup [.int 0,.int 1])
 rw [q7]
 clear q7
 refine g_go ?_
 dsimp only
 have lgz:=Al2.len ag
 have hg7:=s7 _ _ hg
 refine cut1 (fun σ' H'=>∃ pn:Addr,σ'=[some (.ref rp),some (.ref p),some (.int (m:Int)),some (.ref l3),some (strV wd),some (.ref g),uk,some (.ref pn),none,none,none,none]/\Same H7 H'/\FQ K H' pn (lstT 0 gx)/\FB 1500 (lstT 0 gx)) (fun N hN=>?_) ?_
 ·refine ⟨_,rfl,by show 0<=sizeLine; decide,?_⟩
  intro p8 n8
  obtain ⟨H8,q8,s8,e8⟩:=newO n8 (.lst [])
  rw [q8]
  clear q8
  refine ⟨g,p8,gz,rfl,rfl,SqL.of (s8 _ _ hg7),SqL.of e8,_,rfl,?_⟩
  rcases List.eq_nil_or_concat gx with e|⟨gi,x,e⟩
  rotate_left
  rw [List.concat_eq_append] at e
  rotate_left
  ·have zz:gz=[]:=List.eq_nil_of_length_eq_zero (by rw [lgz,e]; rfl)
   refine iteFz (by rw [zz]; rfl) (hN _ _ ⟨p7,rfl,s8,?_,?_⟩)
   ·rw [e]; exact Kw.Same.tup s8 (z9 (SqT.of e7))
   ·rw [e]; exact (FB.ofInt (n:=64) (i:=0) (Bd.small (by decide) (by decide)) (by decide)).mono (by decide)
  ·have lg:gz.length=gi.length+1:=by rw [lgz,e,List.length_append]; rfl
   obtain ⟨va,hva⟩:∃ y,gz[gi.length]?=some y:=⟨_,List.getElem?_eq_getElem (by omega)⟩
   have a1:atI gz (-1)=some va:=atI_neg (k:=1) (by decide) (by omega) (by rw [show gz.length - 1=gi.length by omega]; exact hva)
   obtain ⟨xa,hxa,ra,aa,rfl,hra,ga,fa⟩:=Al2.get (ze ag (s7.trans s8)) hva
   have ex:xa=x:=by
    rw [e,List.getElem?_append_right (Nat.le_refl _),Nat.sub_self] at hxa
    cases hxa
    rfl
   refine iteTz (by cases gz with|nil=>exact absurd lg (by simp)|cons _ _=>rfl) ?_
   refine ⟨_,rfl,_,rfl,g,_,_,_,rfl,rfl,SqL.of (s8 _ _ hg7),a1,ra,_,_,_,rfl,rfl,hra,rfl,hN _ _ ⟨aa,rfl,s8,?_,?_⟩⟩
   ·rw [e,lst_last,<- ex]; exact ga
   ·rw [e,lst_last,<- ex]; exact fa
 rintro σ' H8 ⟨pn,rfl,s8,gn,fn⟩
 have s38:=s4.trans (s5.trans (s6.trans (s7.trans s8)))
 have s08:=s1.trans (s2.trans (s3.trans s38))
 have s78:=s7.trans s8
 have hg8:=s8 _ _ hg7
 have ag8:=ze ag s78
 have gw:∀ x∈gx,x.2.1<=1:=fun x hx=>way0 x (scn_mem m hs (by rw [sc]; exact hx))
 refine ⟨_,rfl,_,rfl,_,b,g,gz,gx,rfl,hz.same s08,hg8,ag8,gw,by omega,fun l9 b0 b1 H9 s9 e9 g90 g91=>?_⟩
 have s09:=s08.trans s9
 have f60:∀ {x:Rat},FB 28 x->FB 60 x:=fun h=>h.mono (by decide)
 have f64:∀ {x:Rat},FB 4 x->FB 60 x:=fun h=>h.mono (by decide)
 have gn9:=Kw.Same.tup s9 gn
 refine ⟨_,rfl,_,rfl,_,rfl,rp,r0,r1,pn,R,_,b,0,lstT 0 gx,rfl,Kw.Same.tup s09 hrm,Kw.Same.tup s09 gr0,Kw.Same.tup s09 gr1,fr0.mono (by decide),fr1.mono (by decide),(hz.same s09).mono (by decide),f60 fw,f60 fh,f64 fu,f64 fv,by decide,sd_in rmq.1 sw |>.2,gn9,fn,fun r10 q10 c10 H10 s10 e10 g10=>?_⟩
 have s010:=s09.trans s10
 refine ⟨r10,_,_,_,rfl,rfl,e10,rfl,_,rfl,_,rfl,_,rfl,rp,r0,r1,pn,R,_,b,1,lstT 0 gx,rfl,Kw.Same.tup s010 hrm,Kw.Same.tup s010 gr0,Kw.Same.tup s010 gr1,fr0.mono (by decide),fr1.mono (by decide),(hz.same s010).mono (by decide),f60 fw,f60 fh,f64 fu,f64 fv,by decide,sd_in rmq.2.1 sh |>.2,Kw.Same.tup s10 gn9,fn,fun r11 q11 c11 H11 s11 e11 g11=>?_⟩
 refine ⟨r11,_,_,_,rfl,rfl,e11,rfl,by show 2<=sizeLine; decide,?_⟩
 intro p12 n12
 obtain ⟨H12,q12,s12,e12⟩:=newO n12 (.lst [.ref q10,.ref q11])
 rw [q12]
 clear q12
 have s912:=s10.trans (s11.trans s12)
 have s012:=s09.trans s912
 have hp12:=Kw.Same.tup s012 hp
 have e912:=s912 _ _ e9
 refine ⟨_,rfl,p12,_,_,_,rfl,rfl,SqL.of e12,rfl,_,rfl,p12,_,_,_,rfl,rfl,SqL.of e12,rfl,_,rfl,p,_,_,_,rfl,rfl,hp12,rfl,_,rfl,p,_,_,_,rfl,rfl,hp12,rfl,_,rfl,l9,_,_,_,rfl,rfl,SqL.of e912,rfl,_,rfl,l9,_,_,_,rfl,rfl,SqL.of e912,rfl,_,rfl,p,_,_,_,rfl,rfl,hp12,rfl,by show 7<=sizeLine; decide,?_⟩
 intro p13 n13
 obtain ⟨H13,q13,s13,e13⟩:=newO n13 (.tup [.ref q10,.ref q11,.ref a2,.ref a3,.ref b0,.ref b1,wV b.m])
 rw [q13]
 clear q13
 have s813:=s9.trans (s912.trans s13)
 have hg13:=s813 _ _ hg8
 have ag13:=ze ag8 s813
 refine ⟨_,rfl,g,rfl,⟨_,SqL.of hg13⟩,lcg_list (K:=K) (xs:=gz) (fun i ys H'=>i<=gz.length/\Same H13 H'/\Al2 (MtP K H') ys (gx.take i)) ⟨Nat.zero_le _,Same.refl _,trivial⟩ (by rw [sizeLine_eq]; omega) (fun i ys H' z=>by obtain ⟨l,_,e⟩:=z; have:=Al2.len e; rw [List.length_take] at this; omega) (fun i ys H' z=>by obtain ⟨_,g',_⟩:=z; exact SqL.of (g' _ _ hg13)) ?_ ?_⟩
 ·rintro i x ys H14 Q1 loc ll hx ⟨hi,s14,hy⟩ kq
  have hi:i < gz.length:=(List.getElem?_eq_some_iff.mp hx).1
  obtain ⟨x',hm,pv,pt,rfl,hpv,gt,ft⟩:=Al2.get (ze ag13 s14) hx
  obtain ⟨k1,k2,k3,k4,rfl⟩:∃ k1 k2 k3 k4,loc=[k1,k2,k3,k4]:=match loc,ll with|[k1,k2,k3,k4],_=>⟨k1,k2,k3,k4,rfl⟩
  have wy:=gw x' (List.mem_of_getElem? hm)
  refine ⟨pv,_,rfl,hpv,rfl,_,_,rfl,_,_,rfl,_,_,rfl,_,_,rfl,rfl,?_⟩
  refine ⟨⟨[some (.ref pt),some (.int (x'.2.1:Int)),some (.int x'.2.2.1),some (.int x'.2.2.2)],rfl,rfl⟩,?_⟩
  refine ⟨_,rfl,by show 2<=sizeLine; decide,?_⟩
  intro p15 n15
  obtain ⟨H15,q15,s15,e15⟩:=newO n15 (.lst [.str (Str.ofString "across"),.str (Str.ofString "along")])
  rw [q15]
  clear q15
  have atw:atI [strV "across",strV "along"] (x'.2.1:Int)=some (wdP x'.2.1):=by
   rcases d01 wy with e|e<;>rw [e]<;>rfl
  refine ⟨_,rfl,p15,_,_,_,rfl,rfl,SqL.of e15,atw,_,rfl,_,rfl,by show 4<=sizeLine; decide,?_⟩
  intro p16 n16
  obtain ⟨H16,q16,s16,e16⟩:=newO n16 (.tup [.ref pt,wdP x'.2.1,.int x'.2.2.1,.int x'.2.2.2])
  rw [q16]
  clear q16
  have s1416:=s15.trans s16
  refine kq _ _ ⟨hi,s14.trans s1416,?_⟩
  rw [zY hm]
  exact Al2.snoc (jd hy s1416) ⟨p16,pt,rfl,SqT.of e16,Kw.Same.tup s1416 gt,ft.mono (by decide)⟩
 rintro ys H14 ⟨_,s14,hy⟩ p15 n15
 rw [lgz,List.take_length] at hy
 obtain ⟨H15,q15,s15,e15⟩:=newO n15 (.lst ys)
 rw [q15]
 clear q15
 refine ⟨_,rfl,_,rfl,_,rfl,by show 1<=sizeLine; decide,?_⟩
 intro p16 n16
 obtain ⟨H16,q16,s16,e16⟩:=newO n16 (.lst [.ref p13])
 rw [q16]
 clear q16
 refine ⟨_,rfl,by show 4<=sizeLine; decide,?_⟩
 intro p17 n17
 obtain ⟨H17,q17,s17,e17⟩:=newO n17 (.tup [strV wd,.ref p15,.ref p16,.ref pn])
 rw [q17]
 clear q17
 have s1317:=s14.trans (s15.trans (s16.trans s17))
 have kk:=k p17 H17 (s08.trans (s813.trans s1317))
 unfold dueD at kk
 rw [ehs,sc] at kk
 refine kk ?_
 have up12:∀ {a:Addr} {q:Rat},FQ K H12 a q->FQ K H17 a q:=fun g=>Kw.Same.tup (s13.trans s1317) g
 have box:Dp K H17 (.ref p13) (bqD (thB R b gx (lstT 0 gx))):=.tup (SqT.of (s1317 _ _ e13)) (.cons (FQ.dp (up12 (Kw.Same.tup (s11.trans s12) g10))) (.cons (FQ.dp (up12 (Kw.Same.tup s12 g11))) (.cons (FQ.dp (up12 (Kw.Same.tup s012 g2))) (.cons (FQ.dp (up12 (Kw.Same.tup s012 g3))) (.cons (FQ.dp (up12 (Kw.Same.tup s912 g90))) (.cons (FQ.dp (up12 (Kw.Same.tup s912 g91))) (.cons (wtD_dp _) .nil)))))))
 exact .tup (SqT.of e17) (.cons (.str _) (.cons (.lst (SqL.of ((s16.trans s17) _ _ e15)) (mps_dp (jd hy (s15.trans (s16.trans s17))))) (.cons (.lst (SqL.of (s17 _ _ e16)) (.cons box .nil)) (.cons (FQ.dp (Kw.Same.tup (s813.trans s1317) gn)) .nil))))
theorem ZT:FnScope ["script","k","box","room","one","most","due","boxes","found"] ["script"] (zD (top 85)):=⟨rfl,rfl,rfl,by decide+kernel,rfl,by decide+kernel,by decide+kernel⟩
theorem ok_law (D:Df K mg "law" (top 85) ["script"]) (T:Tx K mg C) (F_law_box:Fn P w K mg base 2 "_law_box" ["script","k"] (spBox K)) (F_law_room:Fn P w K mg base 2 "_law_room" ["box"] (JM K)) (F_law_one:Fn P w K mg base 3 "_law_one" ["box","room"] (J1 K)) (F_law_take:Fn P w K mg base 1 "_law_take" ["box","many"] spTake) (F_law_due:Fn P w K mg base 4 "_law_due" ["room","one","most"] (zAE K)) (F_run_in:Fn P w K mg base 10 "run_in" ["room","boxes","most"] (sp_run_in K)):Fn P w K mg base 11 "law" ["script"] (spLaw K):=by
 refine D.ok0 ZT (fun vs H Q E h=>?_) (fun f cdv A outer s H vs Q E hr h=>?_)
 ·obtain ⟨a,rfl,_⟩:=h
  rfl
 obtain ⟨a,rfl,hS,fin⟩:=h
 refine ⟨_,(zE (yF PassesOwn.never rfl (yL (by rfl) T.b_range (zA (zV (call_max2 rfl) (by rfl) T.b_max PyProof.Rows.Boot.«max» (zA zC (zA (zV (call_min2 rfl) (by rfl) T.b_min PyProof.Rows.Boot.«min» (zA (zV yG (by rfl) T.b_len PyProof.Rows.Boot.«len» (zA (pv 0) zB)) (zA zC zB))) zB))) zB)) (za (i:=1) ZT.nd rfl (Or.inl rfl)) (zE (zN (i:=2) ZT.nd rfl (Or.inl rfl) (zL F_law_box (by decide) hr (by rfl) zG (zA (pv 0) (zA (pv 1) zB))))
   (zE (zN (i:=3) ZT.nd rfl (Or.inl rfl) (zL F_law_room (by decide) hr (by rfl) zG (zA (pv 2) zB)))
   (zE (zN (i:=4) ZT.nd rfl (Or.inl rfl) (zL F_law_one (by decide) hr (by rfl) zG (zA (pv 2) (zA (pv 3) zB))))
   (zE (zN (i:=5) ZT.nd rfl (Or.inl rfl) (zL F_law_take (by decide) hr (by rfl) zG (zA (pv 2) (zA zC zB))))
   (zE (zN (i:=6) ZT.nd rfl (Or.inl rfl) (zL F_law_due (by decide) hr (by rfl) zG (zA (pv 3) (zA (pv 4) (zA (pv 5) zB)))))
   (zE (zN (i:=7) ZT.nd rfl (Or.inl rfl) (zv (zA (pv 4) zB)))
   (zE (zN (i:=8) ZT.nd rfl (Or.inl rfl) (zL F_run_in (by decide) hr (by rfl) zG (zA (pv 3) (zA (pv 7) (zA (pv 5) zB)))))
   (zE (zh (jM (yv (zn (zV (jf (K:=K) rfl) (by rfl) T.b_isinstance PyProof.Rows.Boot.«isinstance» (zA (pv 8) (zA (YM (by rfl) T.b_tuple PyProof.Rows.Boot.«tuple») zB))) (fun _=>rfl))) (jM (zQ (op_neA (K:=K) rfl (u100 hr)) (pv 8) (pv 6) (zS _)) (ym (zQ (op_neA (K:=K) rfl (u100 hr)) (pv 7) (zv (zA (pv 4) zB)) (zS _))))).pt (zF (zM jN)) zU)
   (zE (yJ (YE PySem.F.plainAttrs_list PySem.F.slot_list_append PySem.F.type_list_append yn (zH ix_tup (pv 8) zC (fun _ _=>rfl)) (zA zC zB)))
   (zE (yJ (YE PySem.F.plainAttrs_list PySem.F.slot_list_append PySem.F.type_list_append yn (zH ix_tup (pv 8) zC (fun _ _=>rfl)) (zA zC zB)))
   (zF (zh (zQ (op_neA (K:=K) rfl (u100 hr)) (zL F_run_in (by decide) hr (by rfl) zG (zA (pv 3) (zA (pv 7) (zA (pv 5) zB)))) (pv 6) (zS _)) (zF (zM jN)) zU)))))))))))))
   (zF (zM jN))),?_⟩
 obtain ⟨ns,hL,h63,_⟩:=id hS
 refine ⟨_,rfl,_,_,rfl,.inl ⟨_,hL,rfl⟩,_,_,rfl,_,_,rfl,_,rfl,?_⟩
 obtain ⟨m,hme,m1,m8⟩:=most_of ns 4 (by decide)
 rw [hme]
 have sm9:∀ i:Int,-(2 ^ 64) < i->i < 2 ^ 64->Bd 9000 i:=fun i h1 h2=>(Bd.small h1 h2).mono (by decide)
 refine ⟨by omega,by omega,yI (n:=m.toNat) (fun i σ' H'=>∃ r1 r2 r3 r4 r5 r6 r7 r8:Option V,σ'=[some (.ref a),r1,r2,r3,r4,r5,r6,r7,r8]/\Same H H') ⟨_,_,_,_,_,_,_,_,rfl,Same.refl _⟩ ?_ ?_⟩
 ·rintro i σ0 H0 hi ⟨u1,u2,u3,u4,u5,u6,u7,u8,rfl,sm⟩
  refine ⟨_,rfl,_,rfl,a,_,rfl,Scr.same hS sm,by omega,by omega,fun b nb Hb hb0 sb hb=>?_⟩
  refine ⟨_,rfl,b,_,rfl,hb,fun rp r0 r1 R H1 n1 s1 hb1 hrm gr0 gr1 rmq=>?_⟩
  refine ⟨_,rfl,_,rfl,b,_,rp,r0,r1,R,rfl,hb1,hrm,gr0,gr1,rmq,fun z c n2 H2 s2 hb2 hz one=>?_⟩
  refine ⟨_,rfl,b,21,_,rfl,hb2,by decide,sm9 _ (by decide) (by decide),fun d3 n3 H3 lo3 hi3 s3 hb3=>?_⟩
  obtain ⟨mo,rfl⟩:∃ mo:Nat,d3=(mo:Int):=⟨d3.toNat,by omega⟩
  have m20:mo<=20:=by omega
  have hrm3:=s3.tup hb2 (s2.tup hb1 hrm)
  have gr03:=s3.tup hb2 (s2.tup hb1 gr0)
  have gr13:=s3.tup hb2 (s2.tup hb1 gr1)
  have hz3:BqH K 28 H3 (.ref z) c:=hz.buts (Buts.one s3 (List.mem_singleton.mpr rfl)) (NoT.lst hb2 NoT.nil)
  refine ⟨_,rfl,_,rfl,_,rfl,rp,r0,r1,R,_,c,mo,rfl,hrm3,gr03,gr13,hz3,one,m20,fun t4 H4 s4 dd4=>?_⟩
  refine ⟨_,rfl,by show 1<=sizeLine; decide,?_⟩
  intro p5 n5
  obtain ⟨H5,q5,s5,e5⟩:=newO n5 (.lst [.ref z])
  rw [q5]
  clear q5
  have s35:=s4.trans s5
  have dr0:FB 1990 R.1:=rmq.2.2.1.f42
  have dr1:FB 1990 R.2:=rmq.2.2.2.f42
  have hz5:BqH K 1990 H5 (.ref z) c:=(hz3.same s35).mono (by decide)
  refine ⟨_,rfl,_,rfl,_,rfl,rp,r0,r1,p5,R,[.ref z],[c],mo,28,rfl,Kw.Same.tup s35 hrm3,Kw.Same.tup s35 gr03,Kw.Same.tup s35 gr13,dr0,dr1,e5,⟨hz5,trivial⟩,one.gd,one.cm,by omega,by omega,fun t6 wd ms es last H6 s6 rq told=>?_⟩
  have ed:=told_due rq one
  have lms:ms.length<=44:=by
   obtain ⟨_,e2,_⟩:=run_one rq one.in1 one.gd one.cm
   have:=scn_len mo (allH R c mo)
   have:=(all_len (R:=R) (b:=c) (m:=mo)).2
   rw [<- e2] at *
   omega
  have dd6:=told_dpP told.told
  rw [ed] at dd6
  have dd46:=dd4.same (s5.trans s6)
  obtain ⟨rr,rb,rn,zs,ws,t1,t2,t3,t4',t5,t6',t7,fr,fb,nrb⟩:=told
  refine ⟨_,rfl,_,_,true,rfl,.inl ⟨_,rfl⟩,.inr ⟨_,_,rfl,t1,ji⟩,_,rfl,iteF ?_⟩
  refine ⟨_,rfl,_,rfl,_,dd6,dd46,(due_ok _ _ _).1,(due_ok _ _ _).2,_,rfl,iteF ?_⟩
  refine ⟨_,rfl,_,rfl,by show 1<=sizeLine; decide,?_⟩
  intro p7 n7
  obtain ⟨H7,q7,s7,e7⟩:=newO n7 (.lst [.ref z])
  rw [q7]
  clear q7
  have s57:=s6.trans s7
  refine ⟨_,.lst (SqL.of (s57 _ _ e5)) (bqs_dp (bs:=[c]) ⟨hz5.same s57,trivial⟩),.lst (SqL.of e7) (bqs_dp (bs:=[c]) ⟨hz5.same s57,trivial⟩),(bqs_ok _).1,(bqs_ok _).2,_,rfl,iteF ?_⟩
  have t17:=Kw.Same.tup s7 t1
  have t27:=s7 _ _ t2
  have lz:=Al2.len t3
  refine ⟨_,rfl,t6,_,_,_,rfl,rfl,t17,rfl,.inl ⟨rfl,_,SqL.of t27⟩,rr,zs,_,rfl,rfl,t27,by rw [sizeLine_eq]; omega,?_⟩
  obtain ⟨H8,q8,b8,e8⟩:=newB (H:=H7) (p:=rr) (.lst (zs++[.int 0]))
  dsimp only
  rw [q8]
  clear q8
  have t18:=But.tup b8 t27 t17
  have t48:=b8 _ _ (Ne.symm nrb) (s7 _ _ t4')
  have lw:ws.length=(es.map (atB last)).length:=Al2.len t5
  have le1:(es.map (atB last)).length=1:=by rw [(run_one rq one.in1 one.gd one.cm).2.2.2]; rfl
  refine ⟨_,rfl,t6,_,_,_,rfl,rfl,t18,rfl,.inl ⟨rfl,_,SqL.of t48⟩,rb,ws,_,rfl,rfl,t48,by rw [sizeLine_eq]; omega,?_⟩
  obtain ⟨H9,q9,b9,e9⟩:=newB (H:=H8) (p:=rb) (.lst (ws++[.int 0]))
  dsimp only
  rw [q9]
  clear q9
  have s59:Same H5 H9:=fun a o ha=>b9 a o (zI ha fb) (b8 a o (zI ha fr) (s57 a o ha))
  have s39:=s35.trans s59
  refine ⟨_,rfl,_,rfl,_,rfl,rp,r0,r1,p5,R,[.ref z],[c],mo,28,rfl,Kw.Same.tup s39 hrm3,Kw.Same.tup s39 gr03,Kw.Same.tup s39 gr13,dr0,dr1,s59 _ _ e5,⟨hz5.same s59,trivial⟩,one.gd,one.cm,by omega,by omega,fun t10 wd' ms' es' last' H10 s10 rq' told'=>?_⟩
  have dd10:=told_dpP told'.told
  rw [told_due rq' one] at dd10
  refine ⟨_,rfl,_,dd10,dd4.same (s5.trans (s59.trans s10)),(due_ok _ _ _).1,(due_ok _ _ _).2,_,rfl,iteF ?_⟩
  exact ⟨_,_,_,_,_,_,_,_,rfl,sm.trans (But.fresh hb0 ((But.of sb).trans (s1.trans (s2.trans (s3.trans (But.of (s35.trans (s59.trans s10))))))))⟩
 ·rintro σ0 H0 ⟨u1,u2,u3,u4,u5,u6,u7,u8,rfl,sm⟩
  exact fin _
end
theorem len1 {p:List Value->Prop} (h:∀ x0,p [x0]):∀ us:List Value,us.length=1->p us:=by
 intro us e
 cases us with
 |nil=>exact absurd e (by show ¬ 0=1; decide)
 |cons x0 us=>
  cases us with
  |nil=>exact h x0
  |cons y us=>exact absurd e (by show ¬ us.length+2=1; omega)
theorem len2 {p:List Value->Prop} (h:∀ x0 x1,p [x0,x1]):∀ us:List Value,us.length=2->p us:=by
 intro us e
 cases us with
 |nil=>exact absurd e (by show ¬ 0=2; decide)
 |cons x0 us=>
  cases us with
  |nil=>exact absurd e (by show ¬ 1=2; decide)
  |cons x1 us=>
   cases us with
   |nil=>exact h x0 x1
   |cons y us=>exact absurd e (by show ¬ us.length+3=2; omega)
theorem len3 {p:List Value->Prop} (h:∀ x0 x1 x2,p [x0,x1,x2]):∀ us:List Value,us.length=3->p us:=by
 intro us e
 cases us with
 |nil=>exact absurd e (by show ¬ 0=3; decide)
 |cons x0 us=>
  cases us with
  |nil=>exact absurd e (by show ¬ 1=3; decide)
  |cons x1 us=>
   cases us with
   |nil=>exact absurd e (by show ¬ 2=3; decide)
   |cons x2 us=>
    cases us with
    |nil=>exact h x0 x1 x2
    |cons y us=>exact absurd e (by show ¬ us.length+4=3; omega)
theorem len4 {p:List Value->Prop} (h:∀ x0 x1 x2 x3,p [x0,x1,x2,x3]):∀ us:List Value,us.length=4->p us:=by
 intro us e
 cases us with
 |nil=>exact absurd e (by show ¬ 0=4; decide)
 |cons x0 us=>
  cases us with
  |nil=>exact absurd e (by show ¬ 1=4; decide)
  |cons x1 us=>
   cases us with
   |nil=>exact absurd e (by show ¬ 2=4; decide)
   |cons x2 us=>
    cases us with
    |nil=>exact absurd e (by show ¬ 3=4; decide)
    |cons x3 us=>
     cases us with
     |nil=>exact h x0 x1 x2 x3
     |cons y us=>exact absurd e (by show ¬ us.length+5=4; omega)
theorem len5 {p:List Value->Prop} (h:∀ x0 x1 x2 x3 x4,p [x0,x1,x2,x3,x4]):∀ us:List Value,us.length=5->p us:=by
 intro us e
 cases us with
 |nil=>exact absurd e (by show ¬ 0=5; decide)
 |cons x0 us=>
  cases us with
  |nil=>exact absurd e (by show ¬ 1=5; decide)
  |cons x1 us=>
   cases us with
   |nil=>exact absurd e (by show ¬ 2=5; decide)
   |cons x2 us=>
    cases us with
    |nil=>exact absurd e (by show ¬ 3=5; decide)
    |cons x3 us=>
     cases us with
     |nil=>exact absurd e (by show ¬ 4=5; decide)
     |cons x4 us=>
      cases us with
      |nil=>exact h x0 x1 x2 x3 x4
      |cons y us=>exact absurd e (by show ¬ us.length+6=5; omega)
set_option maxHeartbeats 0 in
abbrev LkF (K:PySem.W.Frag) (x:Str) (st:Stmt) (f:Addr) (oc:Value) (od:Option Addr) (kV dc pm:Value) (an:Option Addr) (cd ct:Value) (sl:Array (Option Value)):Prop:=K.lookup f=some ⟨oc,od,.func (fnOf x x (zK st) (zJ st) (zD st) .none kV dc pm an cd ct),sl⟩
theorem all_mk {P:Program} {w:World} {K:PySem.W.Frag} {h:Heap} {mg:Str->Option Value} (X:K.In h) (G:h.Ns mainGlobals mg)
  {C_Plane f0 f1 f2 f3 f4 f5 f6 f7 f8 f9 f10 f11 f12 f13 f14 f15 f16 f17 f18 f19 f20 f21 f22 f23 f24 f25 f26 f27 f28 f29 f30 f31 f32 f33 f34 f35 f36 f37 f38 f39 f40 f41 f42 f43 f44 f45 f46 f47 f48 f49 f50 f51 f52 f53 f54 f55 f56 f57 f58 f59 f60 f61 f62 f63 f64 f65 f66 f67 f68 f69 f70 f71 f72 f73 d2:Addr}
  {oc0 kV0 dc0 pm0 cd0 ct0 oc1 kV1 dc1 pm1 cd1 ct1 oc2 kV2 dc2 pm2 cd2 ct2 oc3 kV3 dc3 pm3 cd3 ct3 oc4 kV4 dc4 pm4 cd4 ct4 oc5 kV5 dc5 pm5 cd5 ct5 oc6 kV6 dc6 pm6 cd6 ct6 oc7 kV7 dc7 pm7 cd7 ct7 oc8 kV8 dc8 pm8 cd8 ct8 oc9 kV9 dc9 pm9 cd9 ct9 oc10 kV10 dc10 pm10 cd10 ct10 oc11 kV11 dc11 pm11 cd11 ct11 oc12 kV12 dc12 pm12 cd12 ct12 oc13 kV13 dc13 pm13 cd13 ct13 oc14 kV14 dc14 pm14 cd14 ct14 oc15 kV15 dc15 pm15 cd15 ct15 oc16 kV16 dc16 pm16 cd16 ct16 oc17 kV17 dc17 pm17 cd17 ct17 oc18 kV18 dc18 pm18 cd18 ct18 oc19 kV19 dc19 pm19 cd19 ct19 oc20 kV20 dc20 pm20 cd20 ct20 oc21 kV21 dc21 pm21 cd21 ct21 oc22 kV22 dc22 pm22 cd22 ct22 oc23 kV23 dc23 pm23 cd23 ct23 oc24 kV24 dc24 pm24 cd24 ct24 oc25 kV25 dc25 pm25 cd25 ct25 oc26 kV26 dc26 pm26 cd26 ct26 oc27 kV27 dc27 pm27 cd27 ct27 oc28 kV28 dc28 pm28 cd28 ct28 oc29 kV29 dc29 pm29 cd29 ct29 oc30 kV30 dc30 pm30 cd30 ct30 oc31 kV31 dc31 pm31 cd31 ct31 oc32 kV32 dc32 pm32 cd32 ct32 oc33 kV33 dc33 pm33 cd33 ct33 oc34 kV34 dc34 pm34 cd34 ct34 oc35 kV35 dc35 pm35 cd35 ct35 oc36 kV36 dc36 pm36 cd36 ct36 oc37 kV37 dc37 pm37 cd37 ct37 oc38 kV38 dc38 pm38 cd38 ct38 oc39 kV39 dc39 pm39 cd39 ct39 oc40 kV40 dc40 pm40 cd40 ct40 oc41 kV41 dc41 pm41 cd41 ct41 oc42 kV42 dc42 pm42 cd42 ct42 oc43 kV43 dc43 pm43 cd43 ct43 oc44 kV44 dc44 pm44 cd44 ct44 oc45 kV45 dc45 pm45 cd45 ct45 oc46 kV46 dc46 pm46 cd46 ct46 oc47 kV47 dc47 pm47 cd47 ct47 oc48 kV48 dc48 pm48 cd48 ct48 oc49 kV49 dc49 pm49 cd49 ct49 oc50 kV50 dc50 pm50 cd50 ct50 oc51 kV51 dc51 pm51 cd51 ct51 oc52 kV52 dc52 pm52 cd52 ct52 oc53 kV53 dc53 pm53 cd53 ct53 oc54 kV54 dc54 pm54 cd54 ct54 oc55 kV55 dc55 pm55 cd55 ct55 oc56 kV56 dc56 pm56 cd56 ct56 oc57 kV57 dc57 pm57 cd57 ct57 oc58 kV58 dc58 pm58 cd58 ct58 oc59 kV59 dc59 pm59 cd59 ct59 oc60 kV60 dc60 pm60 cd60 ct60 oc61 kV61 dc61 pm61 cd61 ct61 oc62 kV62 dc62 pm62 cd62 ct62 oc63 kV63 dc63 pm63 cd63 ct63 oc64 kV64 dc64 pm64 cd64 ct64 oc65 kV65 dc65 pm65 cd65 ct65 oc66 kV66 dc66 pm66 cd66 ct66 oc67 kV67 dc67 pm67 cd67 ct67 oc68 kV68 dc68 pm68 cd68 ct68 oc69 kV69 dc69 pm69 cd69 ct69 oc70 kV70 dc70 pm70 cd70 ct70 oc71 kV71 dc71 pm71 cd71 ct71 oc72 kV72 dc72 pm72 cd72 ct72 oc73 kV73 dc73 pm73 cd73 ct73:Value}
  {od0 an0 od1 an1 od2 an2 od3 an3 od4 an4 od5 an5 od6 an6 od7 an7 od8 an8 od9 an9 od10 an10 od11 an11 od12 an12 od13 an13 od14 an14 od15 an15 od16 an16 od17 an17 od18 an18 od19 an19 od20 an20 od21 an21 od22 an22 od23 an23 od24 an24 od25 an25 od26 an26 od27 an27 od28 an28 od29 an29 od30 an30 od31 an31 od32 an32 od33 an33 od34 an34 od35 an35 od36 an36 od37 an37 od38 an38 od39 an39 od40 an40 od41 an41 od42 an42 od43 an43 od44 an44 od45 an45 od46 an46 od47 an47 od48 an48 od49 an49 od50 an50 od51 an51 od52 an52 od53 an53 od54 an54 od55 an55 od56 an56 od57 an57 od58 an58 od59 an59 od60 an60 od61 an61 od62 an62 od63 an63 od64 an64 od65 an65 od66 an66 od67 an67 od68 an68 od69 an69 od70 an70 od71 an71 od72 an72 od73 an73:Option Addr}
  {sl0 sl1 sl2 sl3 sl4 sl5 sl6 sl7 sl8 sl9 sl10 sl11 sl12 sl13 sl14 sl15 sl16 sl17 sl18 sl19 sl20 sl21 sl22 sl23 sl24 sl25 sl26 sl27 sl28 sl29 sl30 sl31 sl32 sl33 sl34 sl35 sl36 sl37 sl38 sl39 sl40 sl41 sl42 sl43 sl44 sl45 sl46 sl47 sl48 sl49 sl50 sl51 sl52 sl53 sl54 sl55 sl56 sl57 sl58 sl59 sl60 sl61 sl62 sl63 sl64 sl65 sl66 sl67 sl68 sl69 sl70 sl71 sl72 sl73:Array (Option Value)}
  {cD2:Value} {oD2:Option Addr} {tD2:Tok} {nD2:Nat} {slD2:Array (Option Value)}
  {tk_LONG_BITS:Tok}
  {A_NOUGHT:Addr} {oG_NOUGHT:Option Addr} {k1_NOUGHT k2_NOUGHT:Tok} {nG_NOUGHT:Nat} {slG_NOUGHT:Array (Option Value)}
  {tk_ACROSS:Tok}
  {tk_ALONG:Tok}
  {tk_SIZES:Tok}
  {tk_SPEEDS:Tok}
  {A_ALL:Addr} {oG_ALL:Option Addr} {k1_ALL k2_ALL:Tok} {nG_ALL:Nat} {slG_ALL:Array (Option Value)}
  {A_WORDS:Addr} {oG_WORDS:Option Addr} {k1_WORDS k2_WORDS:Tok} {nG_WORDS:Nat} {slG_WORDS:Array (Option Value)}
  {tk_NEAR_WALL:Tok}
  {tk_FAR_WALL:Tok}
  {tk_MOST_WEIGHT:Tok}
  {tk_MOST_BOXES:Tok}
  {tk_MOST_MOMENTS:Tok}
  (c_Plane:nsIn K mainGlobals "Plane"=some (some (.ref C_Plane)))
  (b_isinstance:nsIn K mainGlobals "isinstance"=some none)
  (b_int:nsIn K mainGlobals "int"=some none)
  (b_bool:nsIn K mainGlobals "bool"=some none)
  (b_tuple:nsIn K mainGlobals "tuple"=some none)
  (b_list:nsIn K mainGlobals "list"=some none)
  (b_abs:nsIn K mainGlobals "abs"=some none)
  (b_len:nsIn K mainGlobals "len"=some none)
  (b_divmod:nsIn K mainGlobals "divmod"=some none)
  (b_range:nsIn K mainGlobals "range"=some none)
  (b_max:nsIn K mainGlobals "max"=some none)
  (b_min:nsIn K mainGlobals "min"=some none)
  (b_all:nsIn K mainGlobals "all"=some none)
  (b_any:nsIn K mainGlobals "any"=some none)
  (b_set:nsIn K mainGlobals "set"=some none)
  (pg_Plane:plainGet K C_Plane Str.empty=true)
  (hd_Plane:hasDictIn K C_Plane=true)
  (po_Plane:plainOver K C_Plane=true)
  (sa_Plane:findIn K (.ref C_Plane) "__setattr__"=some (some (.builtin "object.__setattr__")))
  (mk_Plane:makesIn K C_Plane=true)
  (kp_Plane:keepIn K (.ref C_Plane)=true)
  (n_Plane_walls:findIn K (.ref C_Plane) "walls"=some none)
  (n_Plane_goings:findIn K (.ref C_Plane) "goings"=some none)
  (n_Plane_now:findIn K (.ref C_Plane) "now"=some none)
  (n_Plane_gone_through:findIn K (.ref C_Plane) "gone_through"=some none)
  (n_Plane_joints:findIn K (.ref C_Plane) "joints"=some none)
  (n_Plane_coming:findIn K (.ref C_Plane) "coming"=some none)
  (n_Plane_due:findIn K (.ref C_Plane) "due"=some none)
  (i_LONG_BITS:nsIn K mainGlobals "LONG_BITS"=some (some (.int 4000 tk_LONG_BITS)))
  (c_NOUGHT:nsIn K mainGlobals "NOUGHT"=some (some (.ref A_NOUGHT)))
  (z_NOUGHT:K.lookup A_NOUGHT=some ⟨.type "tuple",oG_NOUGHT,.seq #[.int 0 k1_NOUGHT,.int 1 k2_NOUGHT] nG_NOUGHT,slG_NOUGHT⟩)
  (i_ACROSS:nsIn K mainGlobals "ACROSS"=some (some (.int 0 tk_ACROSS)))
  (i_ALONG:nsIn K mainGlobals "ALONG"=some (some (.int 1 tk_ALONG)))
  (i_SIZES:nsIn K mainGlobals "SIZES"=some (some (.int 2 tk_SIZES)))
  (i_SPEEDS:nsIn K mainGlobals "SPEEDS"=some (some (.int 4 tk_SPEEDS)))
  (c_ALL:nsIn K mainGlobals "ALL"=some (some (.ref A_ALL)))
  (z_ALL:K.lookup A_ALL=some ⟨.type "tuple",oG_ALL,.seq #[.int 1 k1_ALL,.int 1 k2_ALL] nG_ALL,slG_ALL⟩)
  (c_WORDS:nsIn K mainGlobals "WORDS"=some (some (.ref A_WORDS)))
  (z_WORDS:K.lookup A_WORDS=some ⟨.type "tuple",oG_WORDS,.seq #[.str "across" k1_WORDS,.str "along" k2_WORDS] nG_WORDS,slG_WORDS⟩)
  (i_NEAR_WALL:nsIn K mainGlobals "NEAR_WALL"=some (some (.int (-1) tk_NEAR_WALL)))
  (i_FAR_WALL:nsIn K mainGlobals "FAR_WALL"=some (some (.int (-2) tk_FAR_WALL)))
  (i_MOST_WEIGHT:nsIn K mainGlobals "MOST_WEIGHT"=some (some (.int 1000 tk_MOST_WEIGHT)))
  (i_MOST_BOXES:nsIn K mainGlobals "MOST_BOXES"=some (some (.int 6 tk_MOST_BOXES)))
  (i_MOST_MOMENTS:nsIn K mainGlobals "MOST_MOMENTS"=some (some (.int 40 tk_MOST_MOMENTS)))
  (a0:nsIn K mainGlobals "is_whole"=some (some (.ref f0)))
  (l0:LkF K "is_whole" (top 9) f0 oc0 od0 kV0 dc0 pm0 an0 cd0 ct0 sl0)
  (q0:codeIn K cd0 "is_whole"=true)
  (k0:keepIn K (.ref f0)=true)
  (a1:nsIn K mainGlobals "common_divisor"=some (some (.ref f1)))
  (l1:LkF K "common_divisor" (top 11) f1 oc1 od1 kV1 dc1 pm1 an1 cd1 ct1 sl1)
  (q1:codeIn K cd1 "common_divisor"=true)
  (k1:keepIn K (.ref f1)=true)
  (a2:nsIn K mainGlobals "fraction"=some (some (.ref f2)))
  (l2:K.lookup f2=some ⟨oc2,od2,.func (fnOf "fraction" "fraction" (zK (top 13)) (zJ (top 13)) (zD (top 13)) (.ref d2) kV2 dc2 pm2 an2 cd2 ct2),sl2⟩)
  (q2:codeIn K cd2 "fraction"=true)
  (k2:keepIn K (.ref f2)=true)
  (g2:K.lookup d2=some ⟨cD2,oD2,.seq #[.int 1 tD2] nD2,slD2⟩)
  (a3:nsIn K mainGlobals "plus"=some (some (.ref f3)))
  (l3:LkF K "plus" (top 14) f3 oc3 od3 kV3 dc3 pm3 an3 cd3 ct3 sl3)
  (q3:codeIn K cd3 "plus"=true)
  (k3:keepIn K (.ref f3)=true)
  (a4:nsIn K mainGlobals "minus"=some (some (.ref f4)))
  (l4:LkF K "minus" (top 15) f4 oc4 od4 kV4 dc4 pm4 an4 cd4 ct4 sl4)
  (q4:codeIn K cd4 "minus"=true)
  (k4:keepIn K (.ref f4)=true)
  (a5:nsIn K mainGlobals "times"=some (some (.ref f5)))
  (l5:LkF K "times" (top 16) f5 oc5 od5 kV5 dc5 pm5 an5 cd5 ct5 sl5)
  (q5:codeIn K cd5 "times"=true)
  (k5:keepIn K (.ref f5)=true)
  (a6:nsIn K mainGlobals "over"=some (some (.ref f6)))
  (l6:LkF K "over" (top 17) f6 oc6 od6 kV6 dc6 pm6 an6 cd6 ct6 sl6)
  (q6:codeIn K cd6 "over"=true)
  (k6:keepIn K (.ref f6)=true)
  (a7:nsIn K mainGlobals "under"=some (some (.ref f7)))
  (l7:LkF K "under" (top 18) f7 oc7 od7 kV7 dc7 pm7 an7 cd7 ct7 sl7)
  (q7:codeIn K cd7 "under"=true)
  (k7:keepIn K (.ref f7)=true)
  (a8:nsIn K mainGlobals "far_side"=some (some (.ref f8)))
  (l8:LkF K "far_side" (top 39) f8 oc8 od8 kV8 dc8 pm8 an8 cd8 ct8 sl8)
  (q8:codeIn K cd8 "far_side"=true)
  (k8:keepIn K (.ref f8)=true)
  (a9:nsIn K mainGlobals "have_in_common"=some (some (.ref f9)))
  (l9:LkF K "have_in_common" (top 41) f9 oc9 od9 kV9 dc9 pm9 an9 cd9 ct9 sl9)
  (q9:codeIn K cd9 "have_in_common"=true)
  (k9:keepIn K (.ref f9)=true)
  (a10:nsIn K mainGlobals "touches"=some (some (.ref f10)))
  (l10:LkF K "touches" (top 43) f10 oc10 od10 kV10 dc10 pm10 an10 cd10 ct10 sl10)
  (q10:codeIn K cd10 "touches"=true)
  (k10:keepIn K (.ref f10)=true)
  (a11:nsIn K mainGlobals "are_beside"=some (some (.ref f11)))
  (l11:LkF K "are_beside" (top 44) f11 oc11 od11 kV11 dc11 pm11 an11 cd11 ct11 sl11)
  (q11:codeIn K cd11 "are_beside"=true)
  (k11:keepIn K (.ref f11)=true)
  (a12:nsIn K mainGlobals "are_at_a_corner"=some (some (.ref f12)))
  (l12:LkF K "are_at_a_corner" (top 45) f12 oc12 od12 kV12 dc12 pm12 an12 cd12 ct12 sl12)
  (q12:codeIn K cd12 "are_at_a_corner"=true)
  (k12:keepIn K (.ref f12)=true)
  (a13:nsIn K mainGlobals "place_at"=some (some (.ref f13)))
  (l13:LkF K "place_at" (top 24) f13 oc13 od13 kV13 dc13 pm13 an13 cd13 ct13 sl13)
  (q13:codeIn K cd13 "place_at"=true)
  (k13:keepIn K (.ref f13)=true)
  (a14:nsIn K mainGlobals "box_at"=some (some (.ref f14)))
  (l14:LkF K "box_at" (top 46) f14 oc14 od14 kV14 dc14 pm14 an14 cd14 ct14 sl14)
  (q14:codeIn K cd14 "box_at"=true)
  (k14:keepIn K (.ref f14)=true)
  (a15:nsIn K mainGlobals "near_going"=some (some (.ref f15)))
  (l15:LkF K "near_going" (top 47) f15 oc15 od15 kV15 dc15 pm15 an15 cd15 ct15 sl15)
  (q15:codeIn K cd15 "near_going"=true)
  (k15:keepIn K (.ref f15)=true)
  (a16:nsIn K mainGlobals "far_going"=some (some (.ref f16)))
  (l16:LkF K "far_going" (top 48) f16 oc16 od16 kV16 dc16 pm16 an16 cd16 ct16 sl16)
  (q16:codeIn K cd16 "far_going"=true)
  (k16:keepIn K (.ref f16)=true)
  (a17:nsIn K mainGlobals "with_near_going"=some (some (.ref f17)))
  (l17:LkF K "with_near_going" (top 49) f17 oc17 od17 kV17 dc17 pm17 an17 cd17 ct17 sl17)
  (q17:codeIn K cd17 "with_near_going"=true)
  (k17:keepIn K (.ref f17)=true)
  (a18:nsIn K mainGlobals "with_far_going"=some (some (.ref f18)))
  (l18:LkF K "with_far_going" (top 50) f18 oc18 od18 kV18 dc18 pm18 an18 cd18 ct18 sl18)
  (q18:codeIn K cd18 "with_far_going"=true)
  (k18:keepIn K (.ref f18)=true)
  (a19:nsIn K mainGlobals "mixed"=some (some (.ref f19)))
  (l19:LkF K "mixed" (top 26) f19 oc19 od19 kV19 dc19 pm19 an19 cd19 ct19 sl19)
  (q19:codeIn K cd19 "mixed"=true)
  (k19:keepIn K (.ref f19)=true)
  (a20:nsIn K mainGlobals "behind"=some (some (.ref f20)))
  (l20:LkF K "behind" (top 27) f20 oc20 od20 kV20 dc20 pm20 an20 cd20 ct20 sl20)
  (q20:codeIn K cd20 "behind"=true)
  (k20:keepIn K (.ref f20)=true)
  (a21:nsIn K mainGlobals "turned_about"=some (some (.ref f21)))
  (l21:LkF K "turned_about" (top 52) f21 oc21 od21 kV21 dc21 pm21 an21 cd21 ct21 sl21)
  (q21:codeIn K cd21 "turned_about"=true)
  (k21:keepIn K (.ref f21)=true)
  (a22:nsIn K mainGlobals "parted"=some (some (.ref f22)))
  (l22:LkF K "parted" (top 63) f22 oc22 od22 kV22 dc22 pm22 an22 cd22 ct22 sl22)
  (q22:codeIn K cd22 "parted"=true)
  (k22:keepIn K (.ref f22)=true)
  (a23:nsIn K mainGlobals "joint_moment"=some (some (.ref f23)))
  (l23:LkF K "joint_moment" (top 25) f23 oc23 od23 kV23 dc23 pm23 an23 cd23 ct23 sl23)
  (q23:codeIn K cd23 "joint_moment"=true)
  (k23:keepIn K (.ref f23)=true)
  (a24:findIn K (.ref C_Plane) "one_of"=some (some (.ref f24)))
  (t24:isFn K (.ref f24)=true)
  (l24:K.lookup f24=some ⟨oc24,od24,.func (fnOf "one_of" "Plane.one_of" (zK (zP (top 65) 1)) (zJ (zP (top 65) 1)) (zD (zP (top 65) 1)) .none kV24 dc24 pm24 an24 cd24 ct24),sl24⟩)
  (q24:codeIn K cd24 "Plane.one_of"=true)
  (k24:keepIn K (.ref f24)=true)
  (a25:findIn K (.ref C_Plane) "other_of"=some (some (.ref f25)))
  (t25:isFn K (.ref f25)=true)
  (l25:K.lookup f25=some ⟨oc25,od25,.func (fnOf "other_of" "Plane.other_of" (zK (zP (top 65) 2)) (zJ (zP (top 65) 2)) (zD (zP (top 65) 2)) .none kV25 dc25 pm25 an25 cd25 ct25),sl25⟩)
  (q25:codeIn K cd25 "Plane.other_of"=true)
  (k25:keepIn K (.ref f25)=true)
  (a26:findIn K (.ref C_Plane) "joint_of"=some (some (.ref f26)))
  (t26:isFn K (.ref f26)=true)
  (l26:K.lookup f26=some ⟨oc26,od26,.func (fnOf "joint_of" "Plane.joint_of" (zK (zP (top 65) 3)) (zJ (zP (top 65) 3)) (zD (zP (top 65) 3)) .none kV26 dc26 pm26 an26 cd26 ct26),sl26⟩)
  (q26:codeIn K cd26 "Plane.joint_of"=true)
  (k26:keepIn K (.ref f26)=true)
  (a27:findIn K (.ref C_Plane) "meet_at"=some (some (.ref f27)))
  (t27:isFn K (.ref f27)=true)
  (l27:K.lookup f27=some ⟨oc27,od27,.func (fnOf "meet_at" "Plane.meet_at" (zK (zP (top 65) 8)) (zJ (zP (top 65) 8)) (zD (zP (top 65) 8)) .none kV27 dc27 pm27 an27 cd27 ct27),sl27⟩)
  (q27:codeIn K cd27 "Plane.meet_at"=true)
  (k27:keepIn K (.ref f27)=true)
  (a28:findIn K (.ref C_Plane) "close_at_a_corner"=some (some (.ref f28)))
  (t28:isFn K (.ref f28)=true)
  (l28:K.lookup f28=some ⟨oc28,od28,.func (fnOf "close_at_a_corner" "Plane.close_at_a_corner" (zK (zP (top 65) 9)) (zJ (zP (top 65) 9)) (zD (zP (top 65) 9)) .none kV28 dc28 pm28 an28 cd28 ct28),sl28⟩)
  (q28:codeIn K cd28 "Plane.close_at_a_corner"=true)
  (k28:keepIn K (.ref f28)=true)
  (a29:findIn K (.ref C_Plane) "is_sooner"=some (some (.ref f29)))
  (t29:isFn K (.ref f29)=true)
  (l29:K.lookup f29=some ⟨oc29,od29,.func (fnOf "is_sooner" "Plane.is_sooner" (zK (zP (top 65) 6)) (zJ (zP (top 65) 6)) (zD (zP (top 65) 6)) .none kV29 dc29 pm29 an29 cd29 ct29),sl29⟩)
  (q29:codeIn K cd29 "Plane.is_sooner"=true)
  (k29:keepIn K (.ref f29)=true)
  (a30:findIn K (.ref C_Plane) "is_coming"=some (some (.ref f30)))
  (t30:isFn K (.ref f30)=true)
  (l30:K.lookup f30=some ⟨oc30,od30,.func (fnOf "is_coming" "Plane.is_coming" (zK (zP (top 65) 7)) (zJ (zP (top 65) 7)) (zD (zP (top 65) 7)) .none kV30 dc30 pm30 an30 cd30 ct30),sl30⟩)
  (q30:codeIn K cd30 "Plane.is_coming"=true)
  (k30:keepIn K (.ref f30)=true)
  (a31:findIn K (.ref C_Plane) "look_ahead"=some (some (.ref f31)))
  (t31:isFn K (.ref f31)=true)
  (l31:K.lookup f31=some ⟨oc31,od31,.func (fnOf "look_ahead" "Plane.look_ahead" (zK (zP (top 65) 5)) (zJ (zP (top 65) 5)) (zD (zP (top 65) 5)) .none kV31 dc31 pm31 an31 cd31 ct31),sl31⟩)
  (q31:codeIn K cd31 "Plane.look_ahead"=true)
  (k31:keepIn K (.ref f31)=true)
  (a32:findIn K (.ref C_Plane) "bodies_at"=some (some (.ref f32)))
  (t32:isFn K (.ref f32)=true)
  (l32:K.lookup f32=some ⟨oc32,od32,.func (fnOf "bodies_at" "Plane.bodies_at" (zK (zP (top 65) 4)) (zJ (zP (top 65) 4)) (zD (zP (top 65) 4)) .none kV32 dc32 pm32 an32 cd32 ct32),sl32⟩)
  (q32:codeIn K cd32 "Plane.bodies_at"=true)
  (k32:keepIn K (.ref f32)=true)
  (a33:findIn K (.ref C_Plane) "meetings"=some (some (.ref f33)))
  (t33:isFn K (.ref f33)=true)
  (l33:K.lookup f33=some ⟨oc33,od33,.func (fnOf "meetings" "Plane.meetings" (zK (zP (top 65) 10)) (zJ (zP (top 65) 10)) (zD (zP (top 65) 10)) .none kV33 dc33 pm33 an33 cd33 ct33),sl33⟩)
  (q33:codeIn K cd33 "Plane.meetings"=true)
  (k33:keepIn K (.ref f33)=true)
  (a34:findIn K (.ref C_Plane) "boxes_met"=some (some (.ref f34)))
  (t34:isFn K (.ref f34)=true)
  (l34:K.lookup f34=some ⟨oc34,od34,.func (fnOf "boxes_met" "Plane.boxes_met" (zK (zP (top 65) 11)) (zJ (zP (top 65) 11)) (zD (zP (top 65) 11)) .none kV34 dc34 pm34 an34 cd34 ct34),sl34⟩)
  (q34:codeIn K cd34 "Plane.boxes_met"=true)
  (k34:keepIn K (.ref f34)=true)
  (a35:findIn K (.ref C_Plane) "has_two_meetings"=some (some (.ref f35)))
  (t35:isFn K (.ref f35)=true)
  (l35:K.lookup f35=some ⟨oc35,od35,.func (fnOf "has_two_meetings" "Plane.has_two_meetings" (zK (zP (top 65) 13)) (zJ (zP (top 65) 13)) (zD (zP (top 65) 13)) .none kV35 dc35 pm35 an35 cd35 ct35),sl35⟩)
  (q35:codeIn K cd35 "Plane.has_two_meetings"=true)
  (k35:keepIn K (.ref f35)=true)
  (a36:findIn K (.ref C_Plane) "is_hemmed_in"=some (some (.ref f36)))
  (t36:isFn K (.ref f36)=true)
  (l36:K.lookup f36=some ⟨oc36,od36,.func (fnOf "is_hemmed_in" "Plane.is_hemmed_in" (zK (zP (top 65) 14)) (zJ (zP (top 65) 14)) (zD (zP (top 65) 14)) .none kV36 dc36 pm36 an36 cd36 ct36),sl36⟩)
  (q36:codeIn K cd36 "Plane.is_hemmed_in"=true)
  (k36:keepIn K (.ref f36)=true)
  (a37:findIn K (.ref C_Plane) "has_a_corner"=some (some (.ref f37)))
  (t37:isFn K (.ref f37)=true)
  (l37:K.lookup f37=some ⟨oc37,od37,.func (fnOf "has_a_corner" "Plane.has_a_corner" (zK (zP (top 65) 15)) (zJ (zP (top 65) 15)) (zD (zP (top 65) 15)) .none kV37 dc37 pm37 an37 cd37 ct37),sl37⟩)
  (q37:codeIn K cd37 "Plane.has_a_corner"=true)
  (k37:keepIn K (.ref f37)=true)
  (a38:findIn K (.ref C_Plane) "is_crowded"=some (some (.ref f38)))
  (t38:isFn K (.ref f38)=true)
  (l38:K.lookup f38=some ⟨oc38,od38,.func (fnOf "is_crowded" "Plane.is_crowded" (zK (zP (top 65) 12)) (zJ (zP (top 65) 12)) (zD (zP (top 65) 12)) .none kV38 dc38 pm38 an38 cd38 ct38),sl38⟩)
  (q38:codeIn K cd38 "Plane.is_crowded"=true)
  (k38:keepIn K (.ref f38)=true)
  (a39:findIn K (.ref C_Plane) "part"=some (some (.ref f39)))
  (t39:isFn K (.ref f39)=true)
  (l39:K.lookup f39=some ⟨oc39,od39,.func (fnOf "part" "Plane.part" (zK (zP (top 65) 17)) (zJ (zP (top 65) 17)) (zD (zP (top 65) 17)) .none kV39 dc39 pm39 an39 cd39 ct39),sl39⟩)
  (q39:codeIn K cd39 "Plane.part"=true)
  (k39:keepIn K (.ref f39)=true)
  (a40:findIn K (.ref C_Plane) "go_on"=some (some (.ref f40)))
  (t40:isFn K (.ref f40)=true)
  (l40:K.lookup f40=some ⟨oc40,od40,.func (fnOf "go_on" "Plane.go_on" (zK (zP (top 65) 16)) (zJ (zP (top 65) 16)) (zD (zP (top 65) 16)) .none kV40 dc40 pm40 an40 cd40 ct40),sl40⟩)
  (q40:codeIn K cd40 "Plane.go_on"=true)
  (k40:keepIn K (.ref f40)=true)
  (a41:nsIn K mainGlobals "walls_of"=some (some (.ref f41)))
  (l41:LkF K "walls_of" (top 62) f41 oc41 od41 kV41 dc41 pm41 an41 cd41 ct41 sl41)
  (q41:codeIn K cd41 "walls_of"=true)
  (k41:keepIn K (.ref f41)=true)
  (a42:nsIn K mainGlobals "all_pairs"=some (some (.ref f42)))
  (l42:LkF K "all_pairs" (top 64) f42 oc42 od42 kV42 dc42 pm42 an42 cd42 ct42 sl42)
  (q42:codeIn K cd42 "all_pairs"=true)
  (k42:keepIn K (.ref f42)=true)
  (a43:findIn K (.ref C_Plane) "__init__"=some (some (.ref f43)))
  (t43:isFn K (.ref f43)=true)
  (l43:K.lookup f43=some ⟨oc43,od43,.func (fnOf "__init__" "Plane.__init__" (zK (zP (top 65) 0)) (zJ (zP (top 65) 0)) (zD (zP (top 65) 0)) .none kV43 dc43 pm43 an43 cd43 ct43),sl43⟩)
  (q43:codeIn K cd43 "Plane.__init__"=true)
  (k43:keepIn K (.ref f43)=true)
  (a44:nsIn K mainGlobals "end_word"=some (some (.ref f44)))
  (l44:LkF K "end_word" (top 54) f44 oc44 od44 kV44 dc44 pm44 an44 cd44 ct44 sl44)
  (q44:codeIn K cd44 "end_word"=true)
  (k44:keepIn K (.ref f44)=true)
  (a45:nsIn K mainGlobals "run_along"=some (some (.ref f45)))
  (l45:LkF K "run_along" (top 55) f45 oc45 od45 kV45 dc45 pm45 an45 cd45 ct45 sl45)
  (q45:codeIn K cd45 "run_along"=true)
  (k45:keepIn K (.ref f45)=true)
  (a46:nsIn K mainGlobals "is_fraction"=some (some (.ref f46)))
  (l46:LkF K "is_fraction" (top 12) f46 oc46 od46 kV46 dc46 pm46 an46 cd46 ct46 sl46)
  (q46:codeIn K cd46 "is_fraction"=true)
  (k46:keepIn K (.ref f46)=true)
  (a47:nsIn K mainGlobals "is_breadth"=some (some (.ref f47)))
  (l47:LkF K "is_breadth" (top 36) f47 oc47 od47 kV47 dc47 pm47 an47 cd47 ct47 sl47)
  (q47:codeIn K cd47 "is_breadth"=true)
  (k47:keepIn K (.ref f47)=true)
  (a48:nsIn K mainGlobals "is_weight"=some (some (.ref f48)))
  (l48:LkF K "is_weight" (top 30) f48 oc48 od48 kV48 dc48 pm48 an48 cd48 ct48 sl48)
  (q48:codeIn K cd48 "is_weight"=true)
  (k48:keepIn K (.ref f48)=true)
  (a49:nsIn K mainGlobals "is_box"=some (some (.ref f49)))
  (l49:LkF K "is_box" (top 37) f49 oc49 od49 kV49 dc49 pm49 an49 cd49 ct49 sl49)
  (q49:codeIn K cd49 "is_box"=true)
  (k49:keepIn K (.ref f49)=true)
  (a50:nsIn K mainGlobals "is_room"=some (some (.ref f50)))
  (l50:LkF K "is_room" (top 38) f50 oc50 od50 kV50 dc50 pm50 an50 cd50 ct50 sl50)
  (q50:codeIn K cd50 "is_room"=true)
  (k50:keepIn K (.ref f50)=true)
  (a51:nsIn K mainGlobals "is_within"=some (some (.ref f51)))
  (l51:LkF K "is_within" (top 40) f51 oc51 od51 kV51 dc51 pm51 an51 cd51 ct51 sl51)
  (q51:codeIn K cd51 "is_within"=true)
  (k51:keepIn K (.ref f51)=true)
  (a52:nsIn K mainGlobals "overlap"=some (some (.ref f52)))
  (l52:LkF K "overlap" (top 42) f52 oc52 od52 kV52 dc52 pm52 an52 cd52 ct52 sl52)
  (q52:codeIn K cd52 "overlap"=true)
  (k52:keepIn K (.ref f52)=true)
  (a53:nsIn K mainGlobals "refuse_boxes"=some (some (.ref f53)))
  (l53:LkF K "refuse_boxes" (top 61) f53 oc53 od53 kV53 dc53 pm53 an53 cd53 ct53 sl53)
  (q53:codeIn K cd53 "refuse_boxes"=true)
  (k53:keepIn K (.ref f53)=true)
  (a54:nsIn K mainGlobals "refuse_number_of_moments"=some (some (.ref f54)))
  (l54:LkF K "refuse_number_of_moments" (top 23) f54 oc54 od54 kV54 dc54 pm54 an54 cd54 ct54 sl54)
  (q54:codeIn K cd54 "refuse_number_of_moments"=true)
  (k54:keepIn K (.ref f54)=true)
  (a55:nsIn K mainGlobals "run_in"=some (some (.ref f55)))
  (l55:LkF K "run_in" (top 66) f55 oc55 od55 kV55 dc55 pm55 an55 cd55 ct55 sl55)
  (q55:codeIn K cd55 "run_in"=true)
  (k55:keepIn K (.ref f55)=true)
  (a56:nsIn K mainGlobals "_law_cell"=some (some (.ref f56)))
  (l56:LkF K "_law_cell" (top 68) f56 oc56 od56 kV56 dc56 pm56 an56 cd56 ct56 sl56)
  (q56:codeIn K cd56 "_law_cell"=true)
  (k56:keepIn K (.ref f56)=true)
  (a57:nsIn K mainGlobals "_law_mix"=some (some (.ref f57)))
  (l57:LkF K "_law_mix" (top 69) f57 oc57 od57 kV57 dc57 pm57 an57 cd57 ct57 sl57)
  (q57:codeIn K cd57 "_law_mix"=true)
  (k57:keepIn K (.ref f57)=true)
  (a58:nsIn K mainGlobals "_law_box"=some (some (.ref f58)))
  (l58:LkF K "_law_box" (top 70) f58 oc58 od58 kV58 dc58 pm58 an58 cd58 ct58 sl58)
  (q58:codeIn K cd58 "_law_box"=true)
  (k58:keepIn K (.ref f58)=true)
  (a59:nsIn K mainGlobals "_law_take"=some (some (.ref f59)))
  (l59:LkF K "_law_take" (top 71) f59 oc59 od59 kV59 dc59 pm59 an59 cd59 ct59 sl59)
  (q59:codeIn K cd59 "_law_take"=true)
  (k59:keepIn K (.ref f59)=true)
  (a60:nsIn K mainGlobals "_law_fit"=some (some (.ref f60)))
  (l60:LkF K "_law_fit" (top 72) f60 oc60 od60 kV60 dc60 pm60 an60 cd60 ct60 sl60)
  (q60:codeIn K cd60 "_law_fit"=true)
  (k60:keepIn K (.ref f60)=true)
  (a61:nsIn K mainGlobals "_law_plus"=some (some (.ref f61)))
  (l61:LkF K "_law_plus" (top 73) f61 oc61 od61 kV61 dc61 pm61 an61 cd61 ct61 sl61)
  (q61:codeIn K cd61 "_law_plus"=true)
  (k61:keepIn K (.ref f61)=true)
  (a62:nsIn K mainGlobals "_law_minus"=some (some (.ref f62)))
  (l62:LkF K "_law_minus" (top 74) f62 oc62 od62 kV62 dc62 pm62 an62 cd62 ct62 sl62)
  (q62:codeIn K cd62 "_law_minus"=true)
  (k62:keepIn K (.ref f62)=true)
  (a63:nsIn K mainGlobals "_law_times"=some (some (.ref f63)))
  (l63:LkF K "_law_times" (top 75) f63 oc63 od63 kV63 dc63 pm63 an63 cd63 ct63 sl63)
  (q63:codeIn K cd63 "_law_times"=true)
  (k63:keepIn K (.ref f63)=true)
  (a64:nsIn K mainGlobals "_law_over"=some (some (.ref f64)))
  (l64:LkF K "_law_over" (top 76) f64 oc64 od64 kV64 dc64 pm64 an64 cd64 ct64 sl64)
  (q64:codeIn K cd64 "_law_over"=true)
  (k64:keepIn K (.ref f64)=true)
  (a65:nsIn K mainGlobals "_law_less"=some (some (.ref f65)))
  (l65:LkF K "_law_less" (top 77) f65 oc65 od65 kV65 dc65 pm65 an65 cd65 ct65 sl65)
  (q65:codeIn K cd65 "_law_less"=true)
  (k65:keepIn K (.ref f65)=true)
  (a66:nsIn K mainGlobals "_law_room"=some (some (.ref f66)))
  (l66:LkF K "_law_room" (top 78) f66 oc66 od66 kV66 dc66 pm66 an66 cd66 ct66 sl66)
  (q66:codeIn K cd66 "_law_room"=true)
  (k66:keepIn K (.ref f66)=true)
  (a67:nsIn K mainGlobals "_law_place"=some (some (.ref f67)))
  (l67:LkF K "_law_place" (top 81) f67 oc67 od67 kV67 dc67 pm67 an67 cd67 ct67 sl67)
  (q67:codeIn K cd67 "_law_place"=true)
  (k67:keepIn K (.ref f67)=true)
  (a68:nsIn K mainGlobals "_law_hits"=some (some (.ref f68)))
  (l68:LkF K "_law_hits" (top 80) f68 oc68 od68 kV68 dc68 pm68 an68 cd68 ct68 sl68)
  (q68:codeIn K cd68 "_law_hits"=true)
  (k68:keepIn K (.ref f68)=true)
  (a69:nsIn K mainGlobals "_law_one"=some (some (.ref f69)))
  (l69:LkF K "_law_one" (top 79) f69 oc69 od69 kV69 dc69 pm69 an69 cd69 ct69 sl69)
  (q69:codeIn K cd69 "_law_one"=true)
  (k69:keepIn K (.ref f69)=true)
  (a70:nsIn K mainGlobals "_law_merged"=some (some (.ref f70)))
  (l70:LkF K "_law_merged" (top 82) f70 oc70 od70 kV70 dc70 pm70 an70 cd70 ct70 sl70)
  (q70:codeIn K cd70 "_law_merged"=true)
  (k70:keepIn K (.ref f70)=true)
  (a71:nsIn K mainGlobals "_law_sped"=some (some (.ref f71)))
  (l71:LkF K "_law_sped" (top 83) f71 oc71 od71 kV71 dc71 pm71 an71 cd71 ct71 sl71)
  (q71:codeIn K cd71 "_law_sped"=true)
  (k71:keepIn K (.ref f71)=true)
  (a72:nsIn K mainGlobals "_law_due"=some (some (.ref f72)))
  (l72:LkF K "_law_due" (top 84) f72 oc72 od72 kV72 dc72 pm72 an72 cd72 ct72 sl72)
  (q72:codeIn K cd72 "_law_due"=true)
  (k72:keepIn K (.ref f72)=true)
  (a73:nsIn K mainGlobals "law"=some (some (.ref f73)))
  (l73:LkF K "law" (top 85) f73 oc73 od73 kV73 dc73 pm73 an73 cd73 ct73 sl73)
  (q73:codeIn K cd73 "law"=true)
  (k73:keepIn K (.ref f73)=true) :
  ∃ fa,mg "law"=some (.ref fa)/\∃ fd:FuncData,(∀ (s:Shared) (u:Value),BindsTo s fd ⟨[u],[]⟩ [("script",u)])/\∀ base:Heap,K.In base->base.Ns mainGlobals mg->FnOk P w K mg base (CXE P w) 11 fa fd ["script"] (spLaw K):=by
 have T:Tx K mg (clsAt [C_Plane]):=⟨mg_none_of X G b_isinstance,mg_none_of X G b_int,mg_none_of X G b_bool,mg_none_of X G b_tuple,mg_none_of X G b_list,mg_none_of X G b_abs,mg_none_of X G b_len,mg_none_of X G b_divmod,mg_none_of X G b_range,mg_none_of X G b_max,mg_none_of X G b_min,mg_none_of X G b_all,mg_none_of X G b_any,mg_none_of X G b_set,mg_of X G c_Plane,⟨pg_Plane,hd_Plane,po_Plane,sa_Plane⟩,mk_Plane,kp_Plane,n_Plane_walls,n_Plane_goings,n_Plane_now,n_Plane_gone_through,n_Plane_joints,n_Plane_coming,n_Plane_due,⟨_,mg_of X G i_LONG_BITS⟩,⟨_,mg_of X G c_NOUGHT,sqt_const z_NOUGHT⟩,⟨_,mg_of X G i_ACROSS⟩,⟨_,mg_of X G i_ALONG⟩,⟨_,mg_of X G i_SIZES⟩,⟨_,mg_of X G i_SPEEDS⟩,⟨_,mg_of X G c_ALL,sqt_const z_ALL⟩,⟨_,mg_of X G c_WORDS,sqt2 z_WORDS⟩,⟨_,mg_of X G i_NEAR_WALL⟩,⟨_,mg_of X G i_FAR_WALL⟩,⟨_,mg_of X G i_MOST_WEIGHT⟩,⟨_,mg_of X G i_MOST_BOXES⟩,⟨_,mg_of X G i_MOST_MOMENTS⟩⟩
 have D0:=zZ (ps:=["thing"]) X G a0 l0 q0 k0 (len1 fun _=>rfl)
 have D1:=zZ (ps:=["one","other"]) X G a1 l1 q1 k1 (len2 fun _ _=>rfl)
 have D2:=df_mkD (ps:=["top","bottom"]) X G a2 l2 q2 k2 g2 (len2 fun _ _=>⟨_,rfl,rfl⟩)
 have D3:=zZ (ps:=["one","other"]) X G a3 l3 q3 k3 (len2 fun _ _=>rfl)
 have D4:=zZ (ps:=["one","other"]) X G a4 l4 q4 k4 (len2 fun _ _=>rfl)
 have D5:=zZ (ps:=["one","other"]) X G a5 l5 q5 k5 (len2 fun _ _=>rfl)
 have D6:=zZ (ps:=["one","other"]) X G a6 l6 q6 k6 (len2 fun _ _=>rfl)
 have D7:=zZ (ps:=["one","other"]) X G a7 l7 q7 k7 (len2 fun _ _=>rfl)
 have D8:=zZ (ps:=["box","way"]) X G a8 l8 q8 k8 (len2 fun _ _=>rfl)
 have D9:=zZ (ps:=["one","other","way"]) X G a9 l9 q9 k9 (len3 fun _ _ _=>rfl)
 have D10:=zZ (ps:=["one","other","way"]) X G a10 l10 q10 k10 (len3 fun _ _ _=>rfl)
 have D11:=zZ (ps:=["one","other","way"]) X G a11 l11 q11 k11 (len3 fun _ _ _=>rfl)
 have D12:=zZ (ps:=["one","other"]) X G a12 l12 q12 k12 (len2 fun _ _=>rfl)
 have D13:=zZ (ps:=["body","moment"]) X G a13 l13 q13 k13 (len2 fun _ _=>rfl)
 have D14:=zZ (ps:=["box","moment"]) X G a14 l14 q14 k14 (len2 fun _ _=>rfl)
 have D15:=zZ (ps:=["box","way"]) X G a15 l15 q15 k15 (len2 fun _ _=>rfl)
 have D16:=zZ (ps:=["box","way"]) X G a16 l16 q16 k16 (len2 fun _ _=>rfl)
 have D17:=zZ (ps:=["box","way","going"]) X G a17 l17 q17 k17 (len3 fun _ _ _=>rfl)
 have D18:=zZ (ps:=["box","way","going"]) X G a18 l18 q18 k18 (len3 fun _ _ _=>rfl)
 have D19:=zZ (ps:=["own","far","weight","mass","share"]) X G a19 l19 q19 k19 (len5 fun _ _ _ _ _=>rfl)
 have D20:=zZ (ps:=["one","other","share"]) X G a20 l20 q20 k20 (len3 fun _ _ _=>rfl)
 have D21:=zZ (ps:=["number"]) X G a21 l21 q21 k21 (len1 fun _=>rfl)
 have D22:=zZ (ps:=["own","far"]) X G a22 l22 q22 k22 (len2 fun _ _=>rfl)
 have D23:=zZ (ps:=["one","other"]) X G a23 l23 q23 k23 (len2 fun _ _=>rfl)
 have D24:=yN (ps:=["self","pair","boxes"]) a24 t24 l24 q24 k24 (len3 fun _ _ _=>rfl)
 have D25:=yN (ps:=["self","pair","boxes"]) a25 t25 l25 q25 k25 (len3 fun _ _ _=>rfl)
 have D26:=yN (ps:=["self","pair"]) a26 t26 l26 q26 k26 (len2 fun _ _=>rfl)
 have D27:=yN (ps:=["self","pair","moment"]) a27 t27 l27 q27 k27 (len3 fun _ _ _=>rfl)
 have D28:=yN (ps:=["self","pair"]) a28 t28 l28 q28 k28 (len2 fun _ _=>rfl)
 have D29:=yN (ps:=["self","moment"]) a29 t29 l29 q29 k29 (len2 fun _ _=>rfl)
 have D30:=yN (ps:=["self","pair"]) a30 t30 l30 q30 k30 (len2 fun _ _=>rfl)
 have D31:=yN (ps:=["self"]) a31 t31 l31 q31 k31 (len1 fun _=>rfl)
 have D32:=yN (ps:=["self","moment"]) a32 t32 l32 q32 k32 (len2 fun _ _=>rfl)
 have D33:=yN (ps:=["self"]) a33 t33 l33 q33 k33 (len1 fun _=>rfl)
 have D34:=yN (ps:=["self"]) a34 t34 l34 q34 k34 (len1 fun _=>rfl)
 have D35:=yN (ps:=["self"]) a35 t35 l35 q35 k35 (len1 fun _=>rfl)
 have D36:=yN (ps:=["self","boxes"]) a36 t36 l36 q36 k36 (len2 fun _ _=>rfl)
 have D37:=yN (ps:=["self","boxes"]) a37 t37 l37 q37 k37 (len2 fun _ _=>rfl)
 have D38:=yN (ps:=["self"]) a38 t38 l38 q38 k38 (len1 fun _=>rfl)
 have D39:=yN (ps:=["self","pair"]) a39 t39 l39 q39 k39 (len2 fun _ _=>rfl)
 have D40:=yN (ps:=["self"]) a40 t40 l40 q40 k40 (len1 fun _=>rfl)
 have D41:=zZ (ps:=["room"]) X G a41 l41 q41 k41 (len1 fun _=>rfl)
 have D42:=zZ (ps:=["count"]) X G a42 l42 q42 k42 (len1 fun _=>rfl)
 have D43:=yN (ps:=["self","room","boxes"]) a43 t43 l43 q43 k43 (len3 fun _ _ _=>rfl)
 have D44:=zZ (ps:=["course","most"]) X G a44 l44 q44 k44 (len2 fun _ _=>rfl)
 have D45:=zZ (ps:=["course","most"]) X G a45 l45 q45 k45 (len2 fun _ _=>rfl)
 have D46:=zZ (ps:=["thing"]) X G a46 l46 q46 k46 (len1 fun _=>rfl)
 have D47:=zZ (ps:=["thing"]) X G a47 l47 q47 k47 (len1 fun _=>rfl)
 have D48:=zZ (ps:=["thing"]) X G a48 l48 q48 k48 (len1 fun _=>rfl)
 have D49:=zZ (ps:=["thing"]) X G a49 l49 q49 k49 (len1 fun _=>rfl)
 have D50:=zZ (ps:=["thing"]) X G a50 l50 q50 k50 (len1 fun _=>rfl)
 have D51:=zZ (ps:=["box","room"]) X G a51 l51 q51 k51 (len2 fun _ _=>rfl)
 have D52:=zZ (ps:=["one","other"]) X G a52 l52 q52 k52 (len2 fun _ _=>rfl)
 have D53:=zZ (ps:=["room","boxes"]) X G a53 l53 q53 k53 (len2 fun _ _=>rfl)
 have D54:=zZ (ps:=["most"]) X G a54 l54 q54 k54 (len1 fun _=>rfl)
 have D55:=zZ (ps:=["room","boxes","most"]) X G a55 l55 q55 k55 (len3 fun _ _ _=>rfl)
 have D56:=zZ (ps:=["script","k"]) X G a56 l56 q56 k56 (len2 fun _ _=>rfl)
 have D57:=zZ (ps:=["cell","k"]) X G a57 l57 q57 k57 (len2 fun _ _=>rfl)
 have D58:=zZ (ps:=["script","k"]) X G a58 l58 q58 k58 (len2 fun _ _=>rfl)
 have D59:=zZ (ps:=["box","many"]) X G a59 l59 q59 k59 (len2 fun _ _=>rfl)
 have D60:=zZ (ps:=["top","bottom"]) X G a60 l60 q60 k60 (len2 fun _ _=>rfl)
 have D61:=zZ (ps:=["one","other"]) X G a61 l61 q61 k61 (len2 fun _ _=>rfl)
 have D62:=zZ (ps:=["one","other"]) X G a62 l62 q62 k62 (len2 fun _ _=>rfl)
 have D63:=zZ (ps:=["one","other"]) X G a63 l63 q63 k63 (len2 fun _ _=>rfl)
 have D64:=zZ (ps:=["one","other"]) X G a64 l64 q64 k64 (len2 fun _ _=>rfl)
 have D65:=zZ (ps:=["one","other"]) X G a65 l65 q65 k65 (len2 fun _ _=>rfl)
 have D66:=zZ (ps:=["box"]) X G a66 l66 q66 k66 (len1 fun _=>rfl)
 have D67:=zZ (ps:=["room","one","way","time"]) X G a67 l67 q67 k67 (len4 fun _ _ _ _=>rfl)
 have D68:=zZ (ps:=["room","one","way","most"]) X G a68 l68 q68 k68 (len4 fun _ _ _ _=>rfl)
 have D69:=zZ (ps:=["box","room"]) X G a69 l69 q69 k69 (len2 fun _ _=>rfl)
 have D70:=zZ (ps:=["one","other"]) X G a70 l70 q70 k70 (len2 fun _ _=>rfl)
 have D71:=zZ (ps:=["one","hits"]) X G a71 l71 q71 k71 (len2 fun _ _=>rfl)
 have D72:=zZ (ps:=["room","one","most"]) X G a72 l72 q72 k72 (len3 fun _ _ _=>rfl)
 have D73:=zZ (ps:=["script"]) X G a73 l73 q73 k73 (len1 fun _=>rfl)
 refine law_end X G a73 l73 (fun _=>rfl) fun base kb nb=>?_
 have F0:=ok_is_whole (P:=P) (w:=w) (base:=base) D0 T
 have F1:=ok_common_divisor (P:=P) (w:=w) (base:=base) D1 T
 have F2:=ok_fraction (P:=P) (w:=w) (base:=base) D2 T F0 F1
 have F3:=ok_plus (P:=P) (w:=w) (base:=base) D3 T F1
 have F4:=ok_minus (P:=P) (w:=w) (base:=base) D4 T F3
 have F5:=ok_times (P:=P) (w:=w) (base:=base) D5 T F1
 have F6:=ok_over (P:=P) (w:=w) (base:=base) D6 T F5
 have F7:=ok_under (P:=P) (w:=w) (base:=base) D7 T
 have F8:=ok_far_side (P:=P) (w:=w) (base:=base) D8 T F3
 have F9:=ok_have_in_common (P:=P) (w:=w) (base:=base) D9 T F7 F8
 have F10:=ok_touches (P:=P) (w:=w) (base:=base) D10 T F8
 have F11:=ok_are_beside (P:=P) (w:=w) (base:=base) D11 T F10 F9
 have F12:=ok_are_at_a_corner (P:=P) (w:=w) (base:=base) D12 T F10
 have F13:=ok_place_at (P:=P) (w:=w) (base:=base) D13 T F3 F5
 have F14:=ok_box_at (P:=P) (w:=w) (base:=base) D14 T F13
 have F15:=ok_near_going (P:=P) (w:=w) (base:=base) D15 T
 have F16:=ok_far_going (P:=P) (w:=w) (base:=base) D16 T F8
 have F17:=ok_with_near_going (P:=P) (w:=w) (base:=base) D17 T
 have F18:=ok_with_far_going (P:=P) (w:=w) (base:=base) D18 T F4 F17
 have F19:=ok_mixed (P:=P) (w:=w) (base:=base) D19 T F2 F5 F3
 have F20:=ok_behind (P:=P) (w:=w) (base:=base) D20 T F19
 have F21:=ok_turned_about (P:=P) (w:=w) (base:=base) D21 T F4
 have F22:=ok_parted (P:=P) (w:=w) (base:=base) D22 T F4 F3 F21 F20
 have F23:=ok_joint_moment (P:=P) (w:=w) (base:=base) D23 T F4 F6
 have F24:=ok_Plane_one_of (P:=P) (w:=w) (base:=base) D24 T
 have F25:=ok_Plane_other_of (P:=P) (w:=w) (base:=base) D25 T
 have F26:=ok_Plane_joint_of (P:=P) (w:=w) (base:=base) D26 T F16 F24 F15 F25 F23
 have F27:=ok_Plane_meet_at (P:=P) (w:=w) (base:=base) D27 T F14 F24 F25 F9
 have F28:=ok_Plane_close_at_a_corner (P:=P) (w:=w) (base:=base) D28 T
 have F29:=ok_Plane_is_sooner (P:=P) (w:=w) (base:=base) D29 T F7
 have F30:=ok_Plane_is_coming (P:=P) (w:=w) (base:=base) D30 T
 have F31:=ok_Plane_look_ahead (P:=P) (w:=w) (base:=base) D31 T F29 F27 F28 F30
 have F32:=ok_Plane_bodies_at (P:=P) (w:=w) (base:=base) D32 T F14
 have F33:=ok_Plane_meetings (P:=P) (w:=w) (base:=base) D33 T
 have F34:=ok_Plane_boxes_met (P:=P) (w:=w) (base:=base) D34 T
 have F35:=ok_Plane_has_two_meetings (P:=P) (w:=w) (base:=base) D35 T F34
 have F36:=ok_Plane_is_hemmed_in (P:=P) (w:=w) (base:=base) D36 T F11 F24 F25
 have F37:=ok_Plane_has_a_corner (P:=P) (w:=w) (base:=base) D37 T F34 F12 F30 F28
 have F38:=ok_Plane_is_crowded (P:=P) (w:=w) (base:=base) D38 T F32 F35 F36 F37
 have F39:=ok_Plane_part (P:=P) (w:=w) (base:=base) D39 T F24 F25 F16 F15 F18 F17 F22 F26
 have F40:=ok_Plane_go_on (P:=P) (w:=w) (base:=base) D40 T F39 F31
 have F41:=ok_walls_of (P:=P) (w:=w) (base:=base) D41 T
 have F42:=ok_all_pairs (P:=P) (w:=w) (base:=base) D42 T
 have F43:=ok_Plane___init__ (P:=P) (w:=w) (base:=base) D43 T F41 F42 F26 F31
 have F44:=ok_end_word (P:=P) (w:=w) (base:=base) D44 T F38
 have F45:=ok_run_along (P:=P) (w:=w) (base:=base) D45 T F44 F33 F40 F32
 have F46:=ok_is_fraction (P:=P) (w:=w) (base:=base) D46 T F0 F1
 have F47:=ok_is_breadth (P:=P) (w:=w) (base:=base) D47 T F46 F7
 have F48:=ok_is_weight (P:=P) (w:=w) (base:=base) D48 T F0
 have F49:=ok_is_box (P:=P) (w:=w) (base:=base) D49 T F46 F47 F48
 have F50:=ok_is_room (P:=P) (w:=w) (base:=base) D50 T F47
 have F51:=ok_is_within (P:=P) (w:=w) (base:=base) D51 T F7 F8
 have F52:=ok_overlap (P:=P) (w:=w) (base:=base) D52 T F9
 have F53:=ok_refuse_boxes (P:=P) (w:=w) (base:=base) D53 T F50 F49 F51 F52
 have F54:=ok_refuse_number_of_moments (P:=P) (w:=w) (base:=base) D54 T F0
 have F55:=ok_run_in (P:=P) (w:=w) (base:=base) D55 T F53 F54 F43 F45
 have F56:=ok_law_cell (P:=P) (w:=w) (base:=base) D56 T
 have F57:=ok_law_mix (P:=P) (w:=w) (base:=base) D57 T
 have F58:=ok_law_box (P:=P) (w:=w) (base:=base) D58 T F56 F57
 have F59:=ok_law_take (P:=P) (w:=w) (base:=base) D59 T
 have F60:=ok_law_fit (P:=P) (w:=w) (base:=base) D60 T
 have F61:=ok_law_plus (P:=P) (w:=w) (base:=base) D61 T F60
 have F62:=ok_law_minus (P:=P) (w:=w) (base:=base) D62 T F60
 have F63:=ok_law_times (P:=P) (w:=w) (base:=base) D63 T F60
 have F64:=ok_law_over (P:=P) (w:=w) (base:=base) D64 T F60
 have F65:=ok_law_less (P:=P) (w:=w) (base:=base) D65 T
 have F66:=ok_law_room (P:=P) (w:=w) (base:=base) D66 T F59 F60
 have F67:=ok_law_place (P:=P) (w:=w) (base:=base) D67 T F62 F61 F63 F64 F65
 have F68:=ok_law_hits (P:=P) (w:=w) (base:=base) D68 T F62 F64 F61
 have F69:=ok_law_one (P:=P) (w:=w) (base:=base) D69 T F64 F63 F59 F62 F60
 have F70:=ok_law_merged (P:=P) (w:=w) (base:=base) D70 T F65
 have F71:=ok_law_sped (P:=P) (w:=w) (base:=base) D71 T
 have F72:=ok_law_due (P:=P) (w:=w) (base:=base) D72 T F70 F68 F71 F67
 have F73:=ok_law (P:=P) (w:=w) (base:=base) D73 T F58 F66 F69 F59 F72 F55
 exact F73
end Prf
namespace Kw
open PySem PySem.Spec PyProof.Rows L2
theorem walk_kwX {pn:Str} {l:PySem.W.OpenLaw} {k:Nat} {q:Program} {loose:List Str} {XP:(Str->Option Value)->Heap->Prop} {as0:List Addr} {n0 t0:Nat} {d:DefRec} {K:Params->PySem.W.Frag}
  (hn:l.most=some 63) (hdf:d.params.defaults=[]) (hr:Room k callerA) (hK:∀ P,as0=(K P).map (·.1)) (hnm:d.name="law")
  (F:∀ (w:World) (mg:Str->Option Value) (h:Heap),(K w.params).In h->h.Ns mainGlobals mg->∃ fa,mg "law"=some (.ref fa)/\∃ fd:FuncData,(∀ (s:Shared) (u:Value),BindsTo s fd ⟨[u],[]⟩ [(pn,u)])/\
   ∀ base:Heap,(K w.params).In base->base.Ns mainGlobals mg->FnOk l.prog w (K w.params) mg base (CXE l.prog w) k fa fd [pn] (spLaw (K w.params))) :
  PySem.W.WalkX q loose XP (PySem.W.X.obsZ as0) (PySem.W.X.valZ K n0 t0) l.row.toRowW d [] (fun f vs=>PySem.call f vs):=by
 intro w s₀ s₁ mg mb G Y fa o pm cd doc dV kV ho hd hcd hD hmg hg args vals as L hpre hlay hrd hwl hlo
 exact walk_kw (YP:=fun w h=>(K w.params).In h) hn hdf hr (fun _ _ z=>z) hnm F w s₀ s₁ mg mb G (PySem.W.InK.keeps w _ _ (PySem.W.X.z_facts hK Y).2.1 L.keeps) fa o pm cd doc dV kV ho hd hcd hD hmg hg args vals as hpre hlay hrd hwl hlo
end Kw
def PySem.W.Fast.tw9900073812001439684:PySem.Program:=PySem.Challenge.pw_knockwright_k73_one_box_alone
theorem PySem.W.Fast.te9900073812001439684:PySem.Challenge.pw_knockwright_k73_one_box_alone=PySem.W.Fast.tw9900073812001439684:=rfl
def PySem.W.Fast.tw10226465839931743932:Unit:=()
def PySem.W.Fast.tw1069021828186346101:Unit:=()
def PySem.W.Fast.tw951285981875844160:Unit:=()
def PySem.W.Fast.tw7393705964046480312:Unit:=()
def PySem.W.Fast.tw3806648321132354191:Unit:=()
def PySem.W.Fast.tw2268229227835950952:Unit:=()
def PySem.W.Fast.tw16175637614681342504:Unit:=()
def PySem.W.Fast.tw8728052667243070932:Unit:=()
def PySem.W.Fast.tw2300435180556571017:Unit:=()
def PySem.W.Fast.tw8387789433809787274:Unit:=()
def PySem.W.Fast.tw4303913242889422723:Unit:=()
def PySem.W.Fast.tw16470256177503998791:Unit:=()
def PySem.W.Fast.tw10505886322361012389:Unit:=()
def PySem.W.Fast.tw13076324804679770010:Unit:=()
def PySem.W.Fast.tw15314039387005600002:Unit:=()
def PySem.W.Fast.tw17973320002485771516:Unit:=()
def PySem.W.Fast.tw9714454702989537181:Unit:=()
def PySem.W.Fast.tw189745151818353992:Unit:=()
def PySem.W.Fast.tw6425649358503566326:Unit:=()
def PySem.W.Fast.tw8366117747261035702:Unit:=()
def PySem.W.Fast.tw3760329542419394849:Unit:=()
def PySem.W.Fast.tw4373760509007555526:Unit:=()
def PySem.W.Fast.tw15846325633534470038:Unit:=()
def PySem.W.Fast.tw2160178723158532456:Unit:=()
def PySem.W.Fast.tw10234792193946989984:Unit:=()
def PySem.W.Fast.tw5731170591941155870:Unit:=()
def PySem.W.Fast.tw11039034810466903293:Unit:=()
def PySem.W.Fast.tw5031669968729535296:Unit:=()
def PySem.W.Fast.tw13019697642003173952:Unit:=()
def PySem.W.Fast.tw17467416961819720233:Unit:=()
def PySem.W.Fast.tw18172470293184273870:Unit:=()
def PySem.W.Fast.tw2257014760025122788:Unit:=()
def PySem.W.Fast.tw5961781127523052841:Unit:=()
def PySem.W.Fast.tw3866691255018444345:Unit:=()
def PySem.W.Fast.tw10805033282155862649:Unit:=()
def PySem.W.Fast.tw14228638245919400877:Unit:=()
def PySem.W.Fast.tw3923168476744174669:Unit:=()
def PySem.W.Fast.tw4377024350704124316:Unit:=()
def PySem.W.Fast.tw13327377943291699580:Unit:=()
def PySem.W.Fast.tw17837729104282941548:Unit:=()
def PySem.W.Fast.tw14904361083156624162:Unit:=()
def PySem.W.Fast.tw10728884404353931004:Unit:=()
def PySem.W.Fast.tw13247562839582502004:Unit:=()
def PySem.W.Fast.tw14382263472592416097:Unit:=()
def PySem.W.Fast.tw14771377684426238920:Unit:=()
def PySem.W.Fast.tw12039252109081222333:Unit:=()
def PySem.W.Fast.tw12199497475254150315:Unit:=()
def PySem.W.Fast.tw9093545737454400537:Unit:=()
def PySem.W.Fast.tw13345326192754947539:Unit:=()
def PySem.W.Fast.tw17753779180699736461:Unit:=()
def PySem.W.Fast.tw16242799780342252973:Unit:=()
def PySem.W.Fast.tw7563112834075772940:Unit:=()
def PySem.W.Fast.tw4086270577657698135:Unit:=()
def PySem.W.Fast.tw12070122041920488735:Unit:=()
def PySem.W.Fast.tw10286066287928746078:Unit:=()
def PySem.W.Fast.tw102989612023556136:Unit:=()
def PySem.W.Fast.tw10831445390167874975:Unit:=()
def PySem.W.Fast.tw2093123305491572972:Unit:=()
def PySem.W.Fast.tw5541034705021794520:Unit:=()
def PySem.W.Fast.tw6760635905756758625:Unit:=()
def PySem.W.Fast.tw4307295072584176738:Unit:=()
def PySem.W.Fast.tw12588363310302932678:Unit:=()
def PySem.W.Fast.tw405371301256538032:Unit:=()
def PySem.W.Fast.tw2897524346570264152:Unit:=()
def PySem.W.Fast.tw16343378253885826733:Unit:=()
def PySem.W.Fast.tw12717795058242267269:Unit:=()
def PySem.W.Fast.tw3466252977459230204:Unit:=()
def PySem.W.Fast.tw4139384383859675453:Unit:=()
def PySem.W.Fast.tw5963547193015885209:Unit:=()
def PySem.W.Fast.tw13525540269867150417:Unit:=()
def PySem.W.Fast.tw17202940174285812843:Unit:=()
def PySem.W.Fast.tw17016416484086908889:Unit:=()
def PySem.W.Fast.tw11049923552262676146:Unit:=()
def PySem.W.Fast.tw13733416321456714988:Unit:=()
def PySem.W.Fast.tw5583015681352599771:Unit:=()
def PySem.W.Fast.tw3065278168965781416:Unit:=()
def PySem.W.Fast.tw6829944760817540066:Unit:=()
def PySem.W.Fast.tw7854465054078951350:Unit:=()
def PySem.W.Fast.tw2769420464315907308:Unit:=()
def PySem.W.Fast.tw12023437868228006478:Unit:=()
def PySem.W.Fast.tw10345944502726386214:Unit:=()
def PySem.W.Fast.tw12714407271244060390:Unit:=()
def PySem.W.Fast.tw3009734895526231503:Unit:=()
def PySem.W.Fast.tw18192212939911092210:Unit:=()
def PySem.W.Fast.tw17558627058817906490:Unit:=()
def PySem.W.Fast.tw6043649928241509548:Unit:=()
def PySem.W.Fast.tw6409124569331911115:Unit:=()
def PySem.W.Fast.tw3222697644316288860:Unit:=()
def PySem.W.Fast.tw1787786647376384451:Unit:=()
def PySem.W.Fast.tw18422311644685154334:Unit:=()
def PySem.W.Fast.tw8934460127734067275:Unit:=()
def PySem.W.Fast.tw561807632632568227:Unit:=()
def PySem.W.Fast.tw14981104878566948127:Unit:=()
def PySem.W.Fast.tw11075123392338715334:Unit:=()
def PySem.W.Fast.tw4454228858910315269:Unit:=()
def PySem.W.Fast.tw10983972423730500374:Unit:=()
def PySem.W.Fast.tw16785480899004991093:Unit:=()
def PySem.W.Fast.tw14331445547414417196:Unit:=()
def PySem.W.Fast.tw5639266495763678580:Unit:=()
def PySem.W.Fast.tw3593155938883314502:Unit:=()
def PySem.W.Fast.tw12641641251812663574:Unit:=()
def PySem.W.Fast.tw7164438406538195831:Unit:=()
def PySem.W.Fast.tw2580891366353923791:Unit:=()
def PySem.W.Fast.tw245156194973578131:Unit:=()
def PySem.W.Fast.tw825760710309065916:Unit:=()
def PySem.W.Fast.tw9400483573263723445:Unit:=()
def PySem.W.Fast.tw706731970461000033:Unit:=()
def PySem.W.Fast.tw16044677828488341932:Unit:=()
def PySem.W.Fast.tw6805047085308871581:Unit:=()
def PySem.W.Fast.tw17677394491952191214:Unit:=()
def PySem.W.Fast.tw7825310897835556778:Unit:=()
def PySem.W.Fast.tw2794335174522465467:Unit:=()
def PySem.W.Fast.tw11198027443756230290:Unit:=()
def PySem.W.Fast.tw12091590118560008721:Unit:=()
def PySem.W.Fast.tw4862943735666922214:Unit:=()
def PySem.W.Fast.tw16552948206136820433:Unit:=()
def PySem.W.Fast.tw12717902627487208837:Unit:=()
def PySem.W.Fast.tw623461383909311362:Unit:=()
def PySem.W.Fast.tw212937967070430942:Unit:=()
def PySem.W.Fast.tw15704965449448243844:Unit:=()
def PySem.W.Fast.tw14539887827026749672:Unit:=()
def PySem.W.Fast.tw18380237028500465495:Unit:=()
def PySem.W.Fast.tw323360635338649526:Unit:=()
def PySem.W.Fast.tw3980844515882710196:Unit:=()
def PySem.W.Fast.tw548973199419072992:Unit:=()
def PySem.W.Fast.tw12795004470267754074:Unit:=()
def PySem.W.Fast.tw12789338959213376965:Unit:=()
def PySem.W.Fast.tw2943647017289603438:Unit:=()
def PySem.W.Fast.tw16398711283686273737:Unit:=()
def PySem.W.Fast.tw9337025231648373302:Unit:=()
def PySem.W.Fast.tw3031726258068927448:Unit:=()
def PySem.W.Fast.tw5840688529467918874:Unit:=()
def PySem.W.Fast.tw4147967759480292862:Unit:=()
def PySem.W.Fast.tw9090051978033245212:Unit:=()
def PySem.W.Fast.tw2613608749807146576:Unit:=()
def PySem.W.Fast.tw7921290715008293979:Unit:=()
def PySem.W.Fast.tw5313215498597956796:Unit:=()
def PySem.W.Fast.tw9745354189845170036:Unit:=()
def PySem.W.Fast.tw11008784188963836011:Unit:=()
def PySem.W.Fast.tw14547228818107726121:Unit:=()
def PySem.W.Fast.tw10915664752134006985:Unit:=()
def PySem.W.Fast.tw12259554150800477057:Unit:=()
def PySem.W.Fast.tw11664700217985560376:Unit:=()
def PySem.W.Fast.tw3144539999095200744:Unit:=()
def PySem.W.Fast.tw14901971870842639746:Unit:=()
def PySem.W.Fast.tw2508206635601240630:Unit:=()
def PySem.W.Fast.tw16349612805812842895:Unit:=()
def PySem.W.Fast.tw7270660132411130910:Unit:=()
def PySem.W.Fast.tw3461085150902652845:Unit:=()
def PySem.W.Fast.tw719564426002068852:Unit:=()
def PySem.W.Fast.tw4127343110723569051:Unit:=()
def PySem.W.Fast.tw1516147134436119845:Unit:=()
def PySem.W.Fast.tw10505993333733405532:Unit:=()
def PySem.W.Fast.tw15311652621486580959:Unit:=()
def PySem.W.Fast.tw15040379486227250164:Unit:=()
def PySem.W.Fast.tw2588397091286707875:Unit:=()
def PySem.W.Fast.tw8630118686555529013:Unit:=()
def PySem.W.Fast.tw13520119334335476046:Unit:=()
def PySem.W.Fast.tw2429732732633019798:Unit:=()
def PySem.W.Fast.tw3704710881771734834:Unit:=()
def PySem.W.Fast.tw11324314690513844693:Unit:=()
def PySem.W.Fast.tw10505283930016385923:Unit:=()
def PySem.W.Fast.tw5750682862789821576:Unit:=()
def PySem.W.Fast.tw4405705485175179902:Unit:=()
def PySem.W.Fast.tw18269705637894732748:Unit:=()
def PySem.W.Fast.tw7141357250736696830:Unit:=()
def PySem.W.Fast.tw16859557367641292451:Unit:=()
def PySem.W.Fast.tw14071652809746951154:Unit:=()
def PySem.W.Fast.tw5554490708187442703:Unit:=()
def PySem.W.Fast.tw169575633867305702:Unit:=()
def PySem.W.Fast.tw10285518491973881093:Unit:=()
def PySem.W.Fast.tw11864578323853112258:Unit:=()
def PySem.W.Fast.tw14294940582371478013:Unit:=()
def PySem.W.Fast.tw6014338631419990534:Unit:=()
def PySem.W.Fast.tw1798254557096483447:Unit:=()
def PySem.W.Fast.tw5846716301201322703:Unit:=()
def PySem.W.Fast.tw2606979569751875730:Unit:=()
def PySem.W.Fast.tw13456316930102119842:Unit:=()
def PySem.W.Fast.tw9014297719227951500:Unit:=()
def PySem.W.Fast.tw12874440368554149027:Unit:=()
def PySem.W.Fast.tw3832399410121498674:Unit:=()
def PySem.W.Fast.tw14794485300305251615:Unit:=()
def PySem.W.Fast.tw2657516639224967473:Unit:=()
def PySem.W.Fast.tw17044004518030591154:Unit:=()
def PySem.W.Fast.tw16345220188962476391:Unit:=()
def PySem.W.Fast.tw2708557630957768650:Unit:=()
def PySem.W.Fast.tw4746439399958393647:Unit:=()
def PySem.W.Fast.tw4186444700700597999:Unit:=()
def PySem.W.Fast.tw18087180344886314822:Unit:=()
def PySem.W.Fast.tw2837298128764256787:Unit:=()
def PySem.W.Fast.tw12669325006337621434:Unit:=()
def PySem.W.Fast.tw8732312041704156511:Unit:=()
def PySem.W.Fast.tw12552492110674302106:Unit:=()
def PySem.W.Fast.tw18104510976991921402:Unit:=()
def PySem.W.Fast.tw5409798302590240389:Unit:=()
def PySem.W.Fast.tw10113657835128046366:Unit:=()
def PySem.W.Fast.tw418262968791649454:Unit:=()
def PySem.W.Fast.tw15719820800957211842:Unit:=()
def PySem.W.Fast.tw2282050266973706673:Unit:=()
def PySem.W.Fast.tw5871433539138706419:Unit:=()
def PySem.W.Fast.tw2628508262765248680:Unit:=()
def PySem.W.Fast.tw13329665079555986355:Unit:=()
def PySem.W.Fast.tw5682303198511597004:Unit:=()
def PySem.W.Fast.tw8496597766062018679:Unit:=()
def PySem.W.Fast.tw13886160764546630337:Unit:=()
def PySem.W.Fast.tw5434444157792538947:Unit:=()
def PySem.W.Fast.tw4240917657594110650:Unit:=()
def PySem.W.Fast.tw15977074782044478685:Unit:=()
def PySem.W.Fast.tw9203207137147093063:Unit:=()
def PySem.W.Fast.tw6216848660043735896:Unit:=()
def PySem.W.Fast.tw13576855342142512372:Unit:=()
def PySem.W.Fast.tw16869813354481540659:Unit:=()
def PySem.W.Fast.tw10843586783893045881:Unit:=()
def PySem.W.Fast.tw461590929574604896:Unit:=()
def PySem.W.Fast.tw17094335525029794495:Unit:=()
def PySem.W.Fast.tw7534472221008875964:Unit:=()
def PySem.W.Fast.tw9466669890436422295:Unit:=()
def PySem.W.Fast.tw14853679613266278359:Unit:=()
def PySem.W.Fast.tw10486327346484351850:Unit:=()
def PySem.W.Fast.tw14741218308193163643:Unit:=()
def PySem.W.Fast.tw9411910656133378382:Unit:=()
def PySem.W.Fast.tw13553780468016060849:Unit:=()
def PySem.W.Fast.tw8312909252525683477:Unit:=()
def PySem.W.Fast.tw4657266653825158759:Unit:=()
def PySem.W.Fast.tw17519222102064708881:Unit:=()
def PySem.W.Fast.tw14924942327334750309:Unit:=()
def PySem.W.Fast.tw18443531548572891160:Unit:=()
def PySem.W.Fast.tw1530404339100734744:Unit:=()
def PySem.W.Fast.tw1509218140896831632:Unit:=()
def PySem.W.Fast.tw8177224575518621880:Unit:=()
def PySem.W.Fast.tw8463122402275633871:Unit:=()
def PySem.W.Fast.tw6062663815998487661:Unit:=()
def PySem.W.Fast.tw10905225889831439342:Unit:=()
def PySem.W.Fast.tw6513850422273046746:Unit:=()
def PySem.W.Fast.tw13289601346561610645:Unit:=()
def PySem.W.Fast.tw1182801910845891803:Unit:=()
def PySem.W.Fast.tw17880123129847146293:Unit:=()
def PySem.W.Fast.tw10117618629465701622:Unit:=()
def PySem.W.Fast.tw15709574277008872409:Unit:=()
def PySem.W.Fast.tw17229081284945307036:Unit:=()
def PySem.W.Fast.tw6719102659689165293:Unit:=()
def PySem.W.Fast.tw16373739464411733824:Unit:=()
def PySem.W.Fast.tw1787454401561888835:Unit:=()
def PySem.W.Fast.tw15954855115347370602:Unit:=()
def PySem.W.Fast.tw8646663021116169422:Unit:=()
def PySem.W.Fast.tw10547776433130506001:Unit:=()
def PySem.W.Fast.tw6820504493792876156:Unit:=()
def PySem.W.Fast.tw17499633325728831605:Unit:=()
def PySem.W.Fast.tw10109674961323403551:Unit:=()
def PySem.W.Fast.tw4195062381702884049:Unit:=()
def PySem.W.Fast.tw1718617344811254199:Unit:=()
def PySem.W.Fast.tw1578863751289038400:Unit:=()
def PySem.W.Fast.tw6323236173029025040:Unit:=()
def PySem.W.Fast.tw16684757496857281948:Unit:=()
def PySem.W.Fast.tw5489894996197357283:Unit:=()
def PySem.W.Fast.tw14784919766347549701:Unit:=()
def PySem.W.Fast.tw8745817044710665146:Unit:=()
def PySem.W.Fast.tw3410942342241503839:Unit:=()
def PySem.W.Fast.tw17545705169001920654:Unit:=()
def PySem.W.Fast.tw4595464189600260309:Unit:=()
def PySem.W.Fast.tw73134560679983774:Unit:=()
def PySem.W.Fast.tw7140292244070735095:Unit:=()
def PySem.W.Fast.tw5241211584873505693:Unit:=()
def PySem.W.Fast.tw14400131354096891570:Unit:=()
def PySem.W.Fast.tw12503302611645798894:Unit:=()
def PySem.W.Fast.tw7323386902151292213:Unit:=()
def PySem.W.Fast.tw12402600148633492938:Unit:=()
def PySem.W.Fast.tw11144194230343651657:Unit:=()
def PySem.W.Fast.tw7251787178414827770:Unit:=()
def PySem.W.Fast.tw6450483909575510747:Unit:=()
def PySem.W.Fast.tw103992091506740272:Unit:=()
def PySem.W.Fast.tw13671989884380242564:Unit:=()
def PySem.W.Fast.tw3723013040073831786:Unit:=()
def PySem.W.Fast.tw8993968453499194806:Unit:=()
def PySem.W.Fast.tw11580169504446135342:Unit:=()
def PySem.W.Fast.tw3869041858536614837:Unit:=()
def PySem.W.Fast.tw344601188914377937:Unit:=()
def PySem.W.Fast.tw11579044990394943204:Unit:=()
def PySem.W.Fast.tw365413959738051804:Unit:=()
def PySem.W.Fast.tw15122346608554763982:Unit:=()
def PySem.W.Fast.tw3992033349564230171:Unit:=()
def PySem.W.Fast.tw6036751599411447602:Unit:=()
def PySem.W.Fast.tw17959018755300528708:Unit:=()
def PySem.W.Fast.tw12811292005080462828:Unit:=()
def PySem.W.Fast.tw1697181837861147954:Unit:=()
def PySem.W.Fast.tw2289334865434719778:Unit:=()
def PySem.W.Fast.tw5715705635736689324:Unit:=()
def PySem.W.Fast.tw6193780767973386484:Unit:=()
def PySem.W.Fast.tw5993475948397887052:Unit:=()
def PySem.W.Fast.tw11394294174399604360:Unit:=()
def PySem.W.Fast.tw3197184038369168694:Unit:=()
def PySem.W.Fast.tw2037225208339541589:Unit:=()
def PySem.W.Fast.tw5759592230560469676:Unit:=()
def PySem.W.Fast.tw10580265290326636621:Unit:=()
def PySem.W.Fast.tw8057433280231229733:Unit:=()
def PySem.W.Fast.tw3187141239173657154:Unit:=()
def PySem.W.Fast.tw2526937944697012225:Unit:=()
def PySem.W.Fast.tw1261146679023544982:Unit:=()
def PySem.W.Fast.tw2258640047135720040:Unit:=()
def PySem.W.Fast.tw6212115803970224953:Unit:=()
def PySem.W.Fast.tw4842401994302553724:Unit:=()
def PySem.W.Fast.tw9353580284322913097:Unit:=()
def PySem.W.Fast.tw1998437072480702602:Unit:=()
def PySem.W.Fast.tw3944703775412289089:Unit:=()
def PySem.W.Fast.tw9191194015261004564:Unit:=()
def PySem.W.Fast.tw10755291295030595029:Unit:=()
def PySem.W.Fast.tw2637747103136519951:Unit:=()
def PySem.W.Fast.tw8511066683129910939:Unit:=()
def PySem.W.Fast.tw9022356135967298106:Unit:=()
def PySem.W.Fast.tw11231467089685297815:Unit:=()
def PySem.W.Fast.tw8286537058530613571:Unit:=()
def PySem.W.Fast.tw13524022897519107688:Unit:=()
def PySem.W.Fast.tw2132050291341129073:Unit:=()
def PySem.W.Fast.tw11986684042192890236:Unit:=()
def PySem.W.Fast.tw6896852937249951650:Unit:=()
def PySem.W.Fast.tw5446905367609734957:Unit:=()
def PySem.W.Fast.tw12500568644403682602:Unit:=()
def PySem.W.Fast.tw971651250174523174:Unit:=()
def PySem.W.Fast.tw10367696862821082974:Unit:=()
def PySem.W.Fast.tw885032713566165136:Unit:=()
def PySem.W.Fast.tw2724019342187258512:Unit:=()
def PySem.W.Fast.tw15548113237647243879:Unit:=()
def PySem.W.Fast.tw6528369435651464922:Unit:=()
def PySem.W.Fast.tw12647734308628525226:Unit:=()
def PySem.W.Fast.tw5877229178771441895:Unit:=()
def PySem.W.Fast.tw12256255331300860716:Unit:=()
def PySem.W.Fast.tw7766772073479238025:Unit:=()
def PySem.W.Fast.tw6597716298273559035:Unit:=()
def PySem.W.Fast.tw14690858161162257134:Unit:=()
def PySem.W.Fast.tw1221429614685216010:Unit:=()
def PySem.W.Fast.tw10709937308397759511:Unit:=()
def PySem.W.Fast.tw4931783149936765920:Unit:=()
def PySem.W.Fast.tw5955995572188978789:Unit:=()
def PySem.W.Fast.tw14208217126908968748:Unit:=()
def PySem.W.Fast.tw13559416045781769195:Unit:=()
def PySem.W.Fast.tw2117402295650275359:Unit:=()
def PySem.W.Fast.tw17459018591197157904:Unit:=()
def PySem.W.Fast.tw15008917878956685254:Unit:=()
def PySem.W.Fast.tw7588471153650607009:Unit:=()
def PySem.W.Fast.tw14069009029542737728:Unit:=()
def PySem.W.Fast.tw8080330152325905632:Unit:=()
def PySem.W.Fast.tw18084920505475338473:Unit:=()
def PySem.W.Fast.tw3173362488834928064:Unit:=()
def PySem.W.Fast.tw15983802265895223726:Unit:=()
def PySem.W.Fast.tw14043134738985864320:Unit:=()
def PySem.W.Fast.tw13895151528537894883:Unit:=()
def PySem.W.Fast.tw2684215275098972865:Unit:=()
def PySem.W.Fast.tw2458498029558015217:Unit:=()
def PySem.W.Fast.tw3807229427752247777:Unit:=()
def PySem.W.Fast.tw15064190143771298987:Unit:=()
def PySem.W.Fast.tw10319557037869133947:Unit:=()
def PySem.W.Fast.tw17300684078353449625:Unit:=()
def PySem.W.Fast.tw16034351081663237042:Unit:=()
def PySem.W.Fast.tw142798917397569110:Unit:=()
def PySem.W.Fast.tw6604418134543023919:Unit:=()
def PySem.W.Fast.tw15635174138925558251:Unit:=()
def PySem.W.Fast.tw4890622913234725245:Unit:=()
def PySem.W.Fast.tw14765313377788771694:Unit:=()
def PySem.W.Fast.tw7720416329364673507:Unit:=()
def PySem.W.Fast.tw7240725394931846386:Unit:=()
def PySem.W.Fast.tw1360537061158360622:Unit:=()
def PySem.W.Fast.tw4243161385020697689:Unit:=()
def PySem.W.Fast.tw3440145450244398880:Unit:=()
def PySem.W.Fast.tw7623445693598674941:Unit:=()
def PySem.W.Fast.tw1575877697844204100:Unit:=()
def PySem.W.Fast.tw9161890574561920289:Unit:=()
def PySem.W.Fast.tw8609865108473957402:Unit:=()
def PySem.W.Fast.tw13398375620572555545:Unit:=()
def PySem.W.Fast.tw11618631321571137808:Unit:=()
def PySem.W.Fast.tw15609474238585727160:Unit:=()
def PySem.W.Fast.tw5554626181242269444:Unit:=()
def PySem.W.Fast.tw8998198745539740014:Unit:=()
def PySem.W.Fast.tw16427157741568300250:Unit:=()
def PySem.W.Fast.tw5927975501991782294:Unit:=()
def PySem.W.Fast.tw769331926632725871:Unit:=()
def PySem.W.Fast.tw2908864372376182393:Unit:=()
def PySem.W.Fast.tw4823111085688041995:Unit:=()
def PySem.W.Fast.tw12017855122751180413:Unit:=()
def PySem.W.Fast.tw15826567447594143435:Unit:=()
def PySem.W.Fast.tw3613151276472136170:Unit:=()
def PySem.W.Fast.tw12576545967128705984:Unit:=()
def PySem.W.Fast.tw14833622332108882755:Unit:=()
def PySem.W.Fast.tw17211084208545786883:Unit:=()
def PySem.W.Fast.tw16009977498358413853:Unit:=()
def PySem.W.Fast.tw18415652863540170043:Unit:=()
def PySem.W.Fast.tw15810971145605948357:Unit:=()
def PySem.W.Fast.tw398730167660996983:Unit:=()
def PySem.W.Fast.tw6991987515597679375:Unit:=()
def PySem.W.Fast.tw1412397629524170008:Unit:=()
def PySem.W.Fast.tw7485559049149423291:Unit:=()
def PySem.W.Fast.tw4087935089634795733:Unit:=()
def PySem.W.Fast.tw8263432082783314736:Unit:=()
def PySem.W.Fast.tw12085860280828476865:Unit:=()
def PySem.W.Fast.tw14801453496688501164:Unit:=()
def PySem.W.Fast.tw8939219354475432526:Unit:=()
def PySem.W.Fast.tw14583181104003135874:Unit:=()
def PySem.W.Fast.tw8677927804913000365:Unit:=()
def PySem.W.Fast.tw1544591951430685861:Unit:=()
def PySem.W.Fast.tw3980811655753837230:Unit:=()
def PySem.W.Fast.tw10576831616663375912:Unit:=()
def PySem.W.Fast.tw9708160206682092876:Unit:=()
def PySem.W.Fast.tw12131611571925633729:Unit:=()
def PySem.W.Fast.tw3107798408908212:Unit:=()
def PySem.W.Fast.tw6053827582467951016:Unit:=()
def PySem.W.Fast.tw1510522069937756946:Unit:=()
def PySem.W.Fast.tw7414376201483030215:Unit:=()
def PySem.W.Fast.tw6083069135377277522:Unit:=()
def PySem.W.Fast.tw16400632519155965210:Unit:=()
def PySem.W.Fast.tw493146093111920062:Unit:=()
def PySem.W.Fast.tw14460201565590324256:Unit:=()
def PySem.W.Fast.tw8533451746236005640:Unit:=()
def PySem.W.Fast.tw8898645371410481475:Unit:=()
def PySem.W.Fast.tw16172460954186509863:Unit:=()
def PySem.W.Fast.tw3797496099524937495:Unit:=()
def PySem.W.Fast.tw14225372486720370477:Unit:=()
def PySem.W.Fast.tw4761785706647671782:Unit:=()
def PySem.W.Fast.tw15329097370609565183:Unit:=()
def PySem.W.Fast.tw14898153336483072028:Unit:=()
def PySem.W.Fast.tw5865331103494142780:Unit:=()
def PySem.W.Fast.tw14463134742634847407:Unit:=()
def PySem.W.Fast.tw2379736766315960509:Unit:=()
def PySem.W.Fast.tw8982239930804120330:Unit:=()
def PySem.W.Fast.tw4353118796773518324:Unit:=()
def PySem.W.Fast.tw1871626487538952267:Unit:=()
def PySem.W.Fast.tw8204043508065101343:Unit:=()
def PySem.W.Fast.tw10645916101699569978:Unit:=()
def PySem.W.Fast.tw6566262768869604242:Unit:=()
def PySem.W.Fast.tw14034212969744709298:Unit:=()
def PySem.W.Fast.tw11995749410566255384:Unit:=()
def PySem.W.Fast.tw4904364566531757351:Unit:=()
def PySem.W.Fast.tw14881206177606661796:Unit:=()
def PySem.W.Fast.tw2599806785538997338:Unit:=()
def PySem.W.Fast.tw971647422323901883:Unit:=()
def PySem.W.Fast.tw16257871649049928931:Unit:=()
def PySem.W.Fast.tw4577307101321275778:Unit:=()
def PySem.W.Fast.tw13864347369725659526:Unit:=()
def PySem.W.Fast.tw2321657951529054943:Unit:=()
def PySem.W.Fast.tw2684255560805378777:Unit:=()
def PySem.W.Fast.tw13189921202545182864:Unit:=()
def PySem.W.Fast.tw4781233160102422361:Unit:=()
def PySem.W.Fast.tw7156508804494877620:Unit:=()
def PySem.W.Fast.tw1639929929702028948:Unit:=()
def PySem.W.Fast.tw194160761317231612:Unit:=()
def PySem.W.Fast.tw16185476936648705368:Unit:=()
def PySem.W.Fast.tw1463992738583498281:Unit:=()
def PySem.W.Fast.tw11840988413338859315:Unit:=()
def PySem.W.Fast.tw16718497958777112372:Unit:=()
def PySem.W.Fast.tw7737307747067503455:Unit:=()
def PySem.W.Fast.tw4217143350861745221:Unit:=()
def PySem.W.Fast.tw4552754213698859766:Unit:=()
def PySem.W.Fast.tw10673122416174296468:Unit:=()
def PySem.W.Fast.tw6429654784510697695:Unit:=()
def PySem.W.Fast.tw12494376706368078410:Unit:=()
def PySem.W.Fast.tw15027831412290019069:Unit:=()
def PySem.W.Fast.tw8175968733138982246:Unit:=()
def PySem.W.Fast.tw2889747083287349214:Unit:=()
def PySem.W.Fast.tw6638964794486633522:Unit:=()
def PySem.W.Fast.tw16655523586510119729:Unit:=()
def PySem.W.Fast.tw8358542528194326012:Unit:=()
def PySem.W.Fast.tw11226632639189668592:Unit:=()
def PySem.W.Fast.tw12951119557449104688:Unit:=()
def PySem.W.Fast.tw8895672796395188083:Unit:=()
def PySem.W.Fast.tw9647613982521513274:Unit:=()
def PySem.W.Fast.tw851739527969730166:Unit:=()
def PySem.W.Fast.tw6969856928364870186:Unit:=()
def PySem.W.Fast.tw3234294836618103459:Unit:=()
def PySem.W.Fast.tw2543679812815322054:Unit:=()
def PySem.W.Fast.tw3746145427568824253:Unit:=()
def PySem.W.Fast.tw6018701667679849438:Unit:=()
def PySem.W.Fast.tw13967559877081036971:Unit:=()
def PySem.W.Fast.tw900067582565078027:Unit:=()
def PySem.W.Fast.tw11235048697171326393:Unit:=()
def PySem.W.Fast.tw4027370828693197367:Unit:=()
def PySem.W.Fast.tw17703235925954517923:Unit:=()
def PySem.W.Fast.tw9999176895939454046:Unit:=()
def PySem.W.Fast.tw443216810445507452:Unit:=()
def PySem.W.Fast.tw15668495750229715552:Unit:=()
def PySem.W.Fast.tw10425351971964696141:Unit:=()
def PySem.W.Fast.tw8755565499571876440:Unit:=()
def PySem.W.Fast.tw12167247676894153346:Unit:=()
def PySem.W.Fast.tw10070145675386153488:Unit:=()
def PySem.W.Fast.tw5356854050269760289:Unit:=()
def PySem.W.Fast.tw11194545053067448270:Unit:=()
def PySem.W.Fast.tw15469302510541479455:Unit:=()
def PySem.W.Fast.tw7077439109555699541:Unit:=()
def PySem.W.Fast.tw17272375209495004166:Unit:=()
def PySem.W.Fast.tw6771259684439451306:Unit:=()
def PySem.W.Fast.tw6064855883047383711:Unit:=()
def PySem.W.Fast.tw13941276563049234585:Unit:=()
def PySem.W.Fast.tw13185296734409410735:Unit:=()
def PySem.W.Fast.tw3713625251655920479:Unit:=()
def PySem.W.Fast.tw11364250693629518388:Unit:=()
def PySem.W.Fast.tw17253808557248698555:Unit:=()
def PySem.W.Fast.tw8993643388761559361:Unit:=()
def PySem.W.Fast.tw9517368355113379169:Unit:=()
def PySem.W.Fast.tw17390507409845018471:Unit:=()
def PySem.W.Fast.tw12809045316782353531:Unit:=()
def PySem.W.Fast.tw9087460192896894386:Unit:=()
def PySem.W.Fast.tw16936140745337542247:Unit:=()
def PySem.W.Fast.tw1596172592259704624:Unit:=()
def PySem.W.Fast.tw13523808268376148758:Unit:=()
def PySem.W.Fast.tw16226788990006880590:Unit:=()
def PySem.W.Fast.tw780819223589454721:Unit:=()
def PySem.W.Fast.tw11930682580499711594:Unit:=()
def PySem.W.Fast.tw3856047699585585410:Unit:=()
def PySem.W.Fast.tw918073939137691114:Unit:=()
def PySem.W.Fast.tw14795265296124240374:Unit:=()
def PySem.W.Fast.tw4479185815424916303:Unit:=()
def PySem.W.Fast.tw12473576599380035884:Unit:=()
def PySem.W.Fast.tw11874571858767094411:Unit:=()
def PySem.W.Fast.tw6098906190506148016:Unit:=()
def PySem.W.Fast.tw14313314541450222669:Unit:=()
def PySem.W.Fast.tw14521899546526365048:Unit:=()
def PySem.W.Fast.tw13837993242742619781:Unit:=()
def PySem.W.Fast.tw10448187360807415770:Unit:=()
def PySem.W.Fast.tw11463924654045998192:Unit:=()
def PySem.W.Fast.tw17897919397772425071:Unit:=()
def PySem.W.Fast.tw5807798515438780865:Unit:=()
def PySem.W.Fast.tw8079628374655377924:Unit:=()
def PySem.W.Fast.tw265790990352898327:Unit:=()
def PySem.W.Fast.tw6237623403002563434:Unit:=()
def PySem.W.Fast.tw11830469873137652999:Unit:=()
def PySem.W.Fast.tw4621618926695000266:Unit:=()
def PySem.W.Fast.tw12000125269611607445:Unit:=()
def PySem.W.Fast.tw1970593590998258683:Unit:=()
def PySem.W.Fast.tw12123581903900831164:Unit:=()
def PySem.W.Fast.tw17987044644867250640:Unit:=()
def PySem.W.Fast.tw10928307011525131419:Unit:=()
def PySem.W.Fast.tw10813059934660973715:Unit:=()
def PySem.W.Fast.tw14305047468874608789:Unit:=()
def PySem.W.Fast.tw10699902706128786042:Unit:=()
def PySem.W.Fast.tw2604899266864964697:Unit:=()
def PySem.W.Fast.tw8333566495405832615:Unit:=()
def PySem.W.Fast.tw1953992734137919572:Unit:=()
def PySem.W.Fast.tw12846233175388053816:Unit:=()
def PySem.W.Fast.tw12002843400676029432:Unit:=()
def PySem.W.Fast.tw15842697941409402096:Unit:=()
def PySem.W.Fast.tw17434748827098434436:Unit:=()
def PySem.W.Fast.tw10553828710885076013:Unit:=()
def PySem.W.Fast.tw6059360972009577227:Unit:=()
def PySem.W.Fast.tw11475839426492477815:Unit:=()
def PySem.W.Fast.tw10853173495240843620:Unit:=()
def PySem.W.Fast.tw861235083913840185:Unit:=()
def PySem.W.Fast.tw11289924867901416484:Unit:=()
def PySem.W.Fast.tw13903678452318589878:Unit:=()
def PySem.W.Fast.tw8970477874032405191:Unit:=()
def PySem.W.Fast.tw14862165805251630751:Unit:=()
def PySem.W.Fast.tw3227595607336378818:Unit:=()
def PySem.W.Fast.tw5505577048070740219:Unit:=()
def PySem.W.Fast.tw15601093053714908801:Unit:=()
def PySem.W.Fast.tw16929121546839262849:Unit:=()
def PySem.W.Fast.tw25206434311428186:Unit:=()
def PySem.W.Fast.tw17343150534735859909:Unit:=()
def PySem.W.Fast.tw15840754177835615021:Unit:=()
def PySem.W.Fast.tw1219419404652090122:Unit:=()
def PySem.W.Fast.tw4696828636037823908:Unit:=()
def PySem.W.Fast.tw14767815261792332071:Unit:=()
def PySem.W.Fast.tw7788999828369002822:Unit:=()
def PySem.W.Fast.tw5255232104993905168:Unit:=()
def PySem.W.Fast.tw7552927340629962071:Unit:=()
def PySem.W.Fast.tw947998708751943796:Unit:=()
def PySem.W.Fast.tw11218963628192267689:Unit:=()
def PySem.W.Fast.tw14388311006143358981:Unit:=()
def PySem.W.Fast.tw16365843238753086564:Unit:=()
def PySem.W.Fast.tw1875101908549817101:Unit:=()
def PySem.W.Fast.tw9397474070600428268:Unit:=()
def PySem.W.Fast.tw1896024055508409574:Unit:=()
def PySem.W.Fast.tw7552900284382703047:Unit:=()
def PySem.W.Fast.tw10172885995720933482:Unit:=()
def PySem.W.Fast.tw15775529856762726831:Unit:=()
def PySem.W.Fast.tw13135791880018093502:Unit:=()
def PySem.W.Fast.tw9168132232613257041:Unit:=()
def PySem.W.Fast.tw4287035398404523558:Unit:=()
def PySem.W.Fast.tw13767722729100398627:Unit:=()
def PySem.W.Fast.tw10543523318095143444:Unit:=()
def PySem.W.Fast.tw10017092358078397788:Unit:=()
def PySem.W.Fast.tw2180262870144660152:Unit:=()
def PySem.W.Fast.tw11246053291336121760:Unit:=()
def PySem.W.Fast.tw3480066565782763586:Unit:=()
def PySem.W.Fast.tw2377639648920515592:Unit:=()
def PySem.W.Fast.tw15662362818227000904:Unit:=()
def PySem.W.Fast.tw3129176590331995046:Unit:=()
def PySem.W.Fast.tw18428958993186673085:Unit:=()
def PySem.W.Fast.tw2396645864393854189:Unit:=()
def PySem.W.Fast.tw11316658881165100374:Unit:=()
def PySem.W.Fast.tw16397484263190829967:Unit:=()
def PySem.W.Fast.tw8392111849395790609:Unit:=()
def PySem.W.Fast.tw13753259164069903449:Unit:=()
def PySem.W.Fast.tw3912765392250337392:Unit:=()
def PySem.W.Fast.tw18417126673170922925:Unit:=()
def PySem.W.Fast.tw8278487616087645968:Unit:=()
def PySem.W.Fast.tw14565476061110769597:Unit:=()
def PySem.W.Fast.tw13137761221707033174:Unit:=()
def PySem.W.Fast.tw8959842272193695519:Unit:=()
def PySem.W.Fast.tw17929906854456084726:Unit:=()
def PySem.W.Fast.tw2328896103298757599:Unit:=()
def PySem.W.Fast.tw3485293618959553581:Unit:=()
def PySem.W.Fast.tw15304579280740976741:Unit:=()
def PySem.W.Fast.tw15364846603373228320:Unit:=()
def PySem.W.Fast.tw14519710495199266082:Unit:=()
def PySem.W.Fast.tw1057546884146185414:Unit:=()
def PySem.W.Fast.tw10220069209326582024:Unit:=()
def PySem.W.Fast.tw5791598011251498061:Unit:=()
def PySem.W.Fast.tw2412079636769654250:Unit:=()
def PySem.W.Fast.tw10973675527103042463:Unit:=()
def PySem.W.Fast.tw15292004172490410524:Unit:=()
def PySem.W.Fast.tw13079062715779223931:Unit:=()
def PySem.W.Fast.tw17900140725660494043:Unit:=()
def PySem.W.Fast.tw15103821295522778512:Unit:=()
def PySem.W.Fast.tw3142790651780653189:Unit:=()
def PySem.W.Fast.tw12830892634907045146:Unit:=()
def PySem.W.Fast.tw11737258481538275689:Unit:=()
def PySem.W.Fast.tw1255501101665102776:Unit:=()
def PySem.W.Fast.tw5553768033375595588:Unit:=()
def PySem.W.Fast.tw8562772289703051835:Unit:=()
def PySem.W.Fast.tw12940638566820098802:Unit:=()
def PySem.W.Fast.tw9933136786107800620:Unit:=()
def PySem.W.Fast.tw6256746676412897414:Unit:=()
def PySem.W.Fast.tw15752007300747104697:Unit:=()
def PySem.W.Fast.tw9610768201977929096:Unit:=()
def PySem.W.Fast.tw2423266449756997986:Unit:=()
def PySem.W.Fast.tw8111525534766271446:Unit:=()
def PySem.W.Fast.tw16131842132628972906:Unit:=()
open PySem PySem.W PyProof.Rows
set_option maxRecDepth 100000 in
set_option maxHeartbeats 0 in
theorem PySem.Challenge.cw_knockwright_k73_one_box_alone_holds : PySem.Challenge.rw_knockwright_k73_one_box_alone.Holds := by
 w_on; o_law; z_head; (case hw=>w_witness2)
 refine Kw.walk_kwX (pn:="script") (l:=PySem.Challenge.rw_knockwright_k73_one_box_alone) (k:=11) rfl rfl ⟨rfl,by decide,by decide⟩ (fun _=>by kernel_rfl) rfl ?F
 case F=>
  intro w mg h KX G
  refine' Prf.all_mk KX G ?_ ?_ ?_ ?_ ?_ ?_ ?_ ?_ ?_ ?_ ?_ ?_ ?_ ?_ ?_ ?_ ?_ ?_ ?_ ?_ ?_ ?_ ?_ ?_ ?_ ?_ ?_ ?_ ?_ ?_ ?_ ?_ ?_ ?_ ?_ ?_ ?_ ?_ ?_ ?_ ?_ ?_ ?_ ?_ ?_ ?_ ?_ ?_ ?_ ?_ ?_ ?_ ?_ ?_ ?_ ?_ ?_ ?_ ?_ ?_ ?_ ?_ ?_ ?_ ?_ ?_ ?_ ?_ ?_ ?_ ?_ ?_ ?_ ?_ ?_ ?_ ?_ ?_ ?_ ?_ ?_ ?_ ?_ ?_ ?_ ?_ ?_ ?_ ?_ ?_ ?_ ?_ ?_ ?_ ?_ ?_ ?_ ?_ ?_ ?_ ?_ ?_ ?_ ?_ ?_ ?_ ?_ ?_ ?_ ?_ ?_ ?_ ?_ ?_ ?_ ?_ ?_ ?_ ?_ ?_ ?_ ?_ ?_ ?_ ?_ ?_ ?_ ?_ ?_ ?_ ?_ ?_ ?_ ?_ ?_ ?_ ?_ ?_ ?_ ?_ ?_ ?_ ?_ ?_ ?_ ?_ ?_ ?_ ?_ ?_ ?_ ?_ ?_ ?_ ?_ ?_ ?_ ?_ ?_ ?_ ?_ ?_ ?_ ?_ ?_ ?_ ?_ ?_ ?_ ?_ ?_ ?_ ?_ ?_ ?_ ?_ ?_ ?_ ?_ ?_ ?_ ?_ ?_ ?_ ?_ ?_ ?_ ?_ ?_ ?_ ?_ ?_ ?_ ?_ ?_ ?_ ?_ ?_ ?_ ?_ ?_ ?_ ?_ ?_ ?_ ?_ ?_ ?_ ?_ ?_ ?_ ?_ ?_ ?_ ?_ ?_ ?_ ?_ ?_ ?_ ?_ ?_ ?_ ?_ ?_ ?_ ?_ ?_ ?_ ?_ ?_ ?_ ?_ ?_ ?_ ?_ ?_ ?_ ?_ ?_ ?_ ?_ ?_ ?_ ?_ ?_ ?_ ?_ ?_ ?_ ?_ ?_ ?_ ?_ ?_ ?_ ?_ ?_ ?_ ?_ ?_ ?_ ?_ ?_ ?_ ?_ ?_ ?_ ?_ ?_ ?_ ?_ ?_ ?_ ?_ ?_ ?_ ?_ ?_ ?_ ?_ ?_ ?_ ?_ ?_ ?_ ?_ ?_ ?_ ?_ ?_ ?_ ?_ ?_ ?_ ?_ ?_ ?_ ?_ ?_ ?_ ?_ ?_ ?_ ?_ ?_ ?_ ?_ ?_ ?_ ?_ ?_ ?_ ?_ ?_ ?_ ?_ ?_ ?_ ?_ ?_ ?_ ?_ ?_ ?_ ?_ ?_ ?_ ?_ ?_ ?_ ?_ ?_ ?_ ?_ ?_ ?_ ?_ ?_ ?_ ?_ ?_ ?_ ?_ ?_ ?_ ?_ ?_ ?_ ?_ ?_ ?_ ?_ ?_ ?_ ?_ ?_ ?_ ?_
  any_goals first|k_is|(unfold Prf.LkF;k_is)
end
