import PyProof.Rows.All
import Wide.All
import OpenK.AllK
import Wide.FinOn
import Lean
import PyProof.EqAt
import PyProof.EqKinds
import PyProof.TupleCall
import PyProof.ExcBaseAll.ValueError
import PyProof.P3Eq
import PyProof.NeData
import PyProof.DictTable
import KE.KEqDict
import PyProof.EnumFor
import PyProof.EnumMake
import PyProof.EnumStmt
import PyProof.NsDelKeeps
import KE.KListMore
import PyProof.Rows.SortWalk
import PyProof.ListRange
import PyProof.P3In
import PyProof.CollectIter
import PyProof.TupleOfStr
import KE.KIntText
import PyProof.StrLawsTight
import PyProof.Rows.StrSplitCount
import PyProof.JoinWalk
import OpenK.KTop
import PyProof.StrLawsFirst
import PyProof.MeetsStr
import PyProof.StrLawsChain
import KE.KSortTup
import PyProof.Rows.SumAny
import PyProof.Rows.StrInSeq3
import PySem.Challenge.RW_knockwright_k78_whole_seen_otherwise
set_option genSizeOf false
set_option bootstrap.genMatcherCode false
noncomputable section
open PySem.W (Frag instObj methodObj lookIn plainGet hasDictIn findIn plainGet_of isFn plainOver takerIn makesIn emptyDict keepIn kitOne kia_one callWith_K fnOf codeIn nsIn mg_of KasT kas_rev kas_sort kas_ask Looks mg_none_of)
set_option Elab.async false
set_option linter.all false
set_option maxRecDepth 100000
namespace L2
open PySem PySem.Spec PyProof.Rows
noncomputable abbrev Key:=Sum Int Str
noncomputable def keyIs:Key->Value->Bool
 |.inl k,v=>Value.isInt k v
 |.inr x,v=>Value.isStrOf x v
noncomputable def keyH (w:World):Key->Int
 |.inl k=>hashInt k
 |.inr x=>hashStr w x
theorem yD:∀ {k:Key} {v:Value},keyIs k v=true->(∃ i t,k=Sum.inl i/\v=Value.int i t)\/(∃ x t,k=Sum.inr x/\v=Value.str x t)
 |.inl i,v,h=>by
  obtain ⟨t,e⟩:=Value.isInt_shape (k:=i) (v:=v) h;exact .inl ⟨i,t,rfl,e⟩
 |.inr x,v,h=>by
  obtain ⟨t,e⟩:=Value.isStrOf_shape (x:=x) (v:=v) h;exact .inr ⟨x,t,rfl,e⟩
theorem keyIs_int (i:Int) (t:Tok):keyIs (.inl i) (.int i t)=true:=by simp [keyIs,Value.isInt]
theorem keyIs_str (x:Str) (t:Tok):keyIs (.inr x) (.str x t)=true:=by simp [keyIs,Value.isStrOf]
theorem key_ll (a b:Int):decide ((Sum.inl a:Key)=Sum.inl b)=(a == b):=by
 by_cases e:a=b
 ·subst e; simp
 ·have h:¬ (Sum.inl a:Key)=Sum.inl b:=λq=>e (Sum.inl.inj q)
  rw [decide_eq_false h];exact (beq_eq_false_iff_ne.mpr e).symm
theorem key_rr (a b:Str):decide ((Sum.inr a:Key)=Sum.inr b)=decide (a=b):=by
 by_cases e:a=b
 ·subst e; simp
 ·have h:¬ (Sum.inr a:Key)=Sum.inr b:=λq=>e (Sum.inr.inj q)
  rw [decide_eq_false h,decide_eq_false e]
theorem key_lr (a:Int) (b:Str):decide ((Sum.inl a:Key)=Sum.inr b)=false:=decide_eq_false (λq=>nomatch q)
theorem key_rl (a:Str) (b:Int):decide ((Sum.inr a:Key)=Sum.inl b)=false:=decide_eq_false (λq=>nomatch q)
noncomputable def yF (prog:Program) (w:World):PySem.KeyKind prog w Key where
 is:=keyIs
 hash:=keyH w
 inj:=λv a b ha hb=>by
  rcases yD ha with ⟨i,t,rfl,rfl⟩|⟨x,t,rfl,rfl⟩
  ·rcases yD hb with ⟨j,u,rfl,e⟩|⟨y,u,rfl,e⟩
   ·injection e with e1 _; rw [e1]
   ·exact nomatch e
  ·rcases yD hb with ⟨j,u,rfl,e⟩|⟨y,u,rfl,e⟩
   ·exact nomatch e
   ·injection e with e1 _; rw [e1]
 byValue:=λk v h=>by
  rcases yD h with ⟨i,t,rfl,rfl⟩|⟨x,t,rfl,rfl⟩<;>rfl
 pyHash:=λhv h=>by
  rcases yD hv with ⟨i,t,rfl,rfl⟩|⟨x,t,rfl,rfl⟩
  ·exact wpAny_pyHash_int h
  ·exact wpAny_pyHash_str h
 eqBool:=λhu hv h=>by
  rcases yD hu with ⟨i,t,rfl,rfl⟩|⟨x,t,rfl,rfl⟩
  ·rcases yD hv with ⟨j,u,rfl,rfl⟩|⟨y,u,rfl,rfl⟩
   ·rw [key_ll] at h; exact wpAny_eqBool_int h
   ·rw [key_lr] at h; exact SeqAt.EqAt.int_str i t y u _ _ _ _ h
  ·rcases yD hv with ⟨j,u,rfl,rfl⟩|⟨y,u,rfl,rfl⟩
   ·rw [key_rl] at h; exact SeqAt.EqAt.str_int x t j u _ _ _ _ h
   ·rw [key_rr] at h; exact wpAny_eqBool_str h
 «strs»:=λk x t v h=>by
  rcases yD h with ⟨i,u,rfl,e⟩|⟨y,u,rfl,e⟩
  ·exact nomatch e
  ·injection e with e1 _
   subst e1
   cases v<;>rfl
theorem mixKind_int (prog:Program) (w:World) (i:Int) (t:Tok):(yF prog w).is (.inl i) (.int i t)=true:=keyIs_int i t
theorem mixKind_str (prog:Program) (w:World) (x:Str) (t:Tok):(yF prog w).is (.inr x) (.str x t)=true:=keyIs_str x t
end L2
namespace L2
open PySem PySem.Spec PyProof.Rows
inductive V where
 |non|bl (b:Bool)|int (i:Int)|str (x:Str)|byt (b:Array UInt8)|flt (b:UInt64)|ref (a:Addr)|ty (n:String)
 deriving DecidableEq
noncomputable def RelV:V->Value->Prop
 |.non,u=>u=Value.none
 |.bl b,u=>u=Value.bool b
 |.int i,u=>∃ t,u=Value.int i t
 |.str x,u=>∃ t,u=Value.str x t
 |.byt b,u=>∃ t,u=Value.bytes b t
 |.flt b,u=>∃ t,u=Value.float b t
 |.ref a,u=>u=Value.ref a
 |.ty n,u=>u=Value.type n
noncomputable abbrev Vals:List V->List Value->Prop:=Paired RelV
theorem Vals.length {xs:List V} {us:List Value} (r:Vals xs us):xs.length=us.length:=Paired.length r
theorem Vals.get:∀ {xs:List V} {us:List Value} {i:Nat} {x:V},Vals xs us->xs[i]?=some x->∃ u,us[i]?=some u/\RelV x u
 |_,_,_,_,.nil,e=>by simp at e
 |_,_,0,_,.cons r _,e=>by simp at e; subst e; exact ⟨_,rfl,r⟩
 |_,_,i+1,x,.cons _ t,e=>by
  obtain ⟨u,h1,h2⟩:=Vals.get (i:=i) (x:=x) t (by simpa using e)
  exact ⟨u,by simpa using h1,h2⟩
theorem Vals.set {x:V} {u:Value} (r:RelV x u):∀ {xs:List V} {us:List Value} (i:Nat),Vals xs us->Vals (xs.set i x) (us.set i u)
 |_,_,_,.nil=>.nil
 |_,_,0,.cons _ t=>.cons r t
 |_,_,i+1,.cons q t=>.cons q (Vals.set r i t)
theorem Vals.append:∀ {xs ys:List V} {us ws:List Value},Vals xs us->Vals ys ws->Vals (xs++ys) (us++ws)
 |_,_,_,_,.nil,s=>s
 |_,_,_,_,.cons r t,s=>.cons r (Vals.append t s)
theorem Vals.take:∀ {xs:List V} {us:List Value} (n:Nat),Vals xs us->Vals (xs.take n) (us.take n)
 |_,_,0,_=>.nil
 |_,_,_+1,.nil=>.nil
 |_,_,n+1,.cons r t=>.cons r (Vals.take n t)
theorem Vals.drop:∀ {xs:List V} {us:List Value} (n:Nat),Vals xs us->Vals (xs.drop n) (us.drop n)
 |_,_,0,r=>r
 |_,_,_+1,.nil=>.nil
 |_,_,n+1,.cons _ t=>Vals.drop n t
noncomputable def RelO:Option V->Option Value->Prop
 |some v,some u=>RelV v u
 |none,none=>True
 |_,_=>False
noncomputable def KV {κ:Type}:List (κ × V)->List (κ × Value)->Prop:=Paired λ(p:κ × V) (q:κ × Value)=>p.1=q.1/\RelV p.2 q.2
noncomputable def kV:Key->V
 |.inl i=>.int i
 |.inr x=>.str x
inductive HO where
 |lst (xs:List V)
 |tup (xs:List V)
 |dK (kvs:List (Key × V))|dT (kvs:List (List Key × V))
 |set (S:Int->Bool) (n:Nat)
 |ins (C dx:Addr) (fs:List (Str × V))
 |own (x:Addr)
 |xd (fs:List (Str × V))
 |met (f x:Addr)
 |rng (lo hi:Int)
 |frz (o:Obj) (u:HO)
 |tbl (ps:Array Value)
 |ext (φ:Heap->Prop)
noncomputable abbrev Hp:=Addr->Option HO
noncomputable def upd (H:Hp) (a:Addr) (o:HO):Hp:=λb=>if b=a then some o else H b
theorem zw {H:Hp} {a:Addr} {o:HO}:upd H a o a=some o:=by unfold upd; rw [if_pos rfl]
theorem za {H:Hp} {a b:Addr} {o:HO} (h:b≠a):upd H a o b=H b:=by unfold upd; rw [if_neg h]
theorem upd_upd {H:Hp} {a:Addr} {o u:HO}:upd (upd H a o) a u=upd H a u:=by
 funext b; unfold upd; split<;>rfl
theorem zy {H:Hp} {a b:Addr} {o u:HO} (h:H a=some o) (h':H b=some u) (d:o≠u):a≠b:=by
 intro e; subst e; rw [h] at h'; exact d (Option.some.inj h')
theorem zN {H:Hp} {a b:Addr} {o:HO} (h:H a=some o) (h':H b=none):a≠b:=by
 intro e; subst e; rw [h] at h'; cases h'
section
variable (P:Program) (w:World)
noncomputable def zu (H:Hp) (h:Heap) (a:Addr):HO->Prop
 |.lst xs=>xs.length<=sizeLine/\∃ (its:List Value) (n:Nat),Vals xs its/\h.get? a=some {cls:=.type "list",data:=.seq its.toArray n}
 |.tup xs=>xs.length<=sizeLine/\∃ its:List Value,Vals xs its/\IsTup h a its.toArray
 |.dK kvs=>kvs.length<=sizeLine/\(a == sysModules)=false/\∃ vs,KV kvs vs/\h.DictOf (yF P w) a vs
 |.dT kvs=>kvs.length<=sizeLine/\(a == sysModules)=false/\∃ xs:List (List Key × Addr × Value),
   Paired (λ(p:List Key × V) (q:List Key × Addr × Value)=>p.1=q.1/\H q.2.1=some (.tup (p.1.map kV))/\RelV p.2 q.2.2) kvs xs/\
   ∃ o es ep,h.get? a=some o/\o.ExactDict/\o.data=.dict es ep/\es.toList=xs.map (entryOfKey (tupleKind (yF P w)))/\(xs.map (·.1)).Nodup
 |.set S n=>h.SetOf (intKind P w) a S n
 |.ins C dx fs=>H dx=some (.own a)/\fs.length<=1000/\dx≠a/\h.get? a=some (instObj C dx)/\
   ∃ mA,h.Ns1 dx mA/\(∀ f,RelO (fs.lookup f) (mA f))/\PySem.Within mA (fs.map (·.1))
 |.own _=>∃ o,h.get? a=some o
 |.xd fs=>∃ mA,h.Ns1 a mA/\∀ f,RelO (fs.lookup f) (mA f)
 |.rng lo hi=>∃ t u v,h.get? a=some {cls:=.type "range",data:=.fields #[.int lo t,.int hi u,.int 1 v]}
 |.frz o u=>h.get? a=some o/\zu H h a u
 |.tbl ps=>h.get? a=some {cls:=.none,data:=.fields ps}
 |.met f x=>h.get? a=some (methodObj (.ref f) (.ref x))
 |.ext φ=>φ h/\(∃ o,h.get? a=some o)/\∀ h1 h2:Heap,φ h1->(∀ o,h1.get? a=some o->h2.get? a=some o)->φ h2
noncomputable def HOk (H:Hp) (h:Heap):Prop:=∀ a o,H a=some o->zu P w H h a o
end
section
variable {P:Program} {w:World} {H H':Hp} {h h':Heap} {a:Addr} {o:HO}
theorem zu.lt (x:zu P w H h a o):a < h.objs.size:=by
 cases o with
 |lst xs=>obtain ⟨_,_,_,_,e⟩:=x; exact Heap.lt_size e
 |tup xs=>obtain ⟨_,_,_,p⟩:=x; exact p.lt
 |dK kvs=>obtain ⟨_,_,_,_,o,_,_,e,_⟩:=x; exact Heap.lt_size e
 |dT kvs=>obtain ⟨_,_,_,_,o,_,_,e,_⟩:=x; exact Heap.lt_size e
 |set S n=>obtain ⟨o,_,_,_,e,_⟩:=x; exact Heap.lt_size e
 |ins C dx fs=>obtain ⟨_,_,_,e,_⟩:=x; exact Heap.lt_size e
 |own y=>obtain ⟨_,e⟩:=x; exact Heap.lt_size e
 |xd fs=>obtain ⟨_,⟨_,_,_,e,_⟩,_⟩:=x; exact Heap.lt_size e
 |rng lo hi=>obtain ⟨_,_,_,e⟩:=x; exact Heap.lt_size e
 |frz ob u=>obtain ⟨e,_⟩:=x; exact Heap.lt_size e
 |tbl ps=>exact Heap.lt_size (show h.get? a=some _ from x)
 |met f y=>exact Heap.lt_size (show h.get? a=some _ from x)
 |ext φ=>obtain ⟨_,⟨_,e⟩,_⟩:=x; exact Heap.lt_size e
theorem Paired.mapP {α β:Type} {F G:α->β->Prop}:∀ {l₁:List α} {l₂:List β},Paired F l₁ l₂->(∀ a b,F a b->G a b)->Paired G l₁ l₂
 |_,_,.nil,_=>.nil
 |_,_,.cons r t,f=>.cons (f _ _ r) (Paired.mapP t f)
theorem zu.stay (x:zu P w H h a o) (k:∀ b u,(b=a\/H b=some (.own a))->h.get? b=some u->h'.get? b=some u)
  (ho:∀ b,H b=some (.own a)->H' b=some (.own a)) (ht:∀ b xs,H b=some (.tup xs)->H' b=some (.tup xs)):zu P w H' h' a o:=by
 induction o with
 |lst xs=>obtain ⟨z,its,n,r,e⟩:=x; exact ⟨z,its,n,r,k _ _ (.inl rfl) e⟩
 |tup xs=>obtain ⟨z,its,r,ob,e,c⟩:=x; exact ⟨z,its,r,ob,k _ _ (.inl rfl) e,c⟩
 |dK kvs=>obtain ⟨z,y,vs,r,ob,es,ep,e,c⟩:=x; exact ⟨z,y,vs,r,ob,es,ep,k _ _ (.inl rfl) e,c⟩
 |dT kvs=>
  obtain ⟨z,y,xs,r,ob,es,ep,e,c⟩:=x;exact ⟨z,y,xs,Paired.mapP r λp q z=>⟨z.1,ht _ _ z.2.1,z.2.2⟩,ob,es,ep,k _ _ (.inl rfl) e,c⟩
 |set S n=>obtain ⟨ob,es,ep,t,e,c⟩:=x; exact ⟨ob,es,ep,t,k _ _ (.inl rfl) e,c⟩
 |ins C dx fs=>
  obtain ⟨d,z,ne,e,mA,⟨od,es,ep,e2,c⟩,r⟩:=x;exact ⟨ho _ d,z,ne,k _ _ (.inl rfl) e,mA,⟨od,es,ep,k _ _ (.inr d) e2,c⟩,r⟩
 |own y=>obtain ⟨ob,e⟩:=x; exact ⟨ob,k _ _ (.inl rfl) e⟩
 |xd fs=>obtain ⟨mA,⟨od,es,ep,e,c⟩,r⟩:=x; exact ⟨mA,⟨od,es,ep,k _ _ (.inl rfl) e,c⟩,r⟩
 |rng lo hi=>obtain ⟨t,u,v,e⟩:=x; exact ⟨t,u,v,k _ _ (.inl rfl) e⟩
 |frz ob u ih=>obtain ⟨e,q⟩:=x; exact ⟨k _ _ (.inl rfl) e,ih q⟩
 |tbl ps=>
  have e:h.get? a=some {cls:=.none,data:=.fields ps}:=x;show h'.get? a=some {cls:=.none,data:=.fields ps};exact k a _ (.inl rfl) e
 |met f y=>
  have e:h.get? a=some (methodObj (.ref f) (.ref y)):=x;show h'.get? a=some (methodObj (.ref f) (.ref y));exact k a _ (.inl rfl) e
 |ext φ=>obtain ⟨p,⟨o,e⟩,st⟩:=x; exact ⟨st _ _ p λo q=>k _ _ (.inl rfl) q,⟨o,k _ _ (.inl rfl) e⟩,st⟩
theorem HOk.lt (x:HOk P w H h) (e:H a=some o):a < h.objs.size:=(x a o e).lt
theorem HOk.fresh (x:HOk P w H h) (e:h.objs.size<=a):H a=none:=by
 cases q:H a with
 |none=>rfl
 |some u=>exact absurd (Nat.lt_of_lt_of_le (x.lt q) e) (Nat.lt_irrefl _)
theorem HOk.kept (x:HOk P w H h) (k:∀ b u,h.get? b=some u->h'.get? b=some u):HOk P w H h':=λa o e=>
 (x a o e).stay (λb u _ q=>k b u q) (λ_ q=>q) λ_ _ q=>q
theorem HOk.laid (x:HOk P w H h) (k:∀ b u,h.get? b=some u->h'.get? b=some u) (hp:h.objs.size<=a) (new:zu P w (upd H a o) h' a o):HOk P w (upd H a o) h':=λb u e=>by
 have hn:=x.fresh hp;by_cases hb:b=a
 ·subst hb; rw [zw] at e; cases e; exact new
 ·rw [za hb] at e;exact (x b u e).stay (λc v _ q=>k c v q) (λc q=>by rw [za (zN q hn)]; exact q) λc xs q=>by rw [za (zN q hn)]; exact q
end
noncomputable def Rd (H:Hp) (a:Addr) (u:HO):Prop:=H a=some u\/∃ o,H a=some (.frz o u)
theorem Rd.ok {P:Program} {w:World} {H:Hp} {h:Heap} {a:Addr} {u:HO} (r:Rd H a u) (x:HOk P w H h):zu P w H h a u:=by
 rcases r with r|⟨o,r⟩
 ·exact x a u r
 ·obtain ⟨_,q⟩:=x a _ r;exact q
noncomputable def Mut:Option HO->Prop
 |some (.lst _)=>True
 |some (.dK _)=>True
 |some (.dT _)=>True
 |some (.set _ _)=>True
 |some (.ins _ _ _)=>True
 |some (.ext _)=>True
 |_=>False
section
variable {P:Program} {w:World} {H:Hp} {h h':Heap} {x e:Addr} {o':HO}
theorem HOk.write (ok:HOk P w H h) (mu:Mut (H x)) (he:e=x\/H e=some (.own x)) (k:∀ b u,b≠e->h.get? b=some u->h'.get? b=some u) (heo:∃ u,h'.get? e=some u)
  (new:zu P w (upd H x o') h' x o'):HOk P w (upd H x o') h':=λb u q=>by
 have nown:∀ c y,H c=some (.own y)->c≠x:=λc y r z=>by subst z; rw [r] at mu; exact mu
 have ntup:∀ c xs,H c=some (.tup xs)->c≠x:=λc xs r z=>by subst z; rw [r] at mu; exact mu
 by_cases hb:b=x
 ·subst hb; rw [zw] at q; cases q; exact new
 ·rw [za hb] at q;by_cases hbe:b=e
  ·have q':H b=some (.own x):=by
    rcases he with z|z
    ·exact absurd (hbe.trans z) hb
    ·rw [hbe]; exact z
   rw [q] at q'; cases q'
   obtain ⟨v,hv⟩:=heo;exact ⟨v,by rw [hbe]; exact hv⟩
  ·refine (ok b u q).stay (λc v hc r=>k c v ?_ r) (λc r=>by rw [za (nown c b r)]; exact r) λc xs r=>by rw [za (ntup c xs r)]; exact r
   rcases hc with rfl|hc
   ·exact hbe
   ·rintro rfl;rcases he with z|z
    ·exact nown c b hc z
    ·rw [hc] at z; cases z; exact hb rfl
end
structure Un (fs ex:List Addr) (H H':Hp) (h h':Heap):Prop where
 keep:∀ b o,h.get? b=some o->H b=none->b∉fs->b∉ex->h'.get? b=some o
 slot:∀ b o,h.get? b=some o->H b=none->b∈fs->b∉ex->∃ sl,h'.get? b=some {o with slots:=sl}
 free:∀ b o,h.get? b=some o->H b=none->b∉ex->H' b=none
 there:∀ b o,h.get? b=some o->b∉ex->∃ o',h'.get? b=some o'
 tups:∀ b xs,H b=some (.tup xs)->H' b=some (.tup xs)
 frzs:∀ b o u,H b=some (.frz o u)->H' b=some (.frz o u)
 tbls:∀ b ps,H b=some (.tbl ps)->∃ more,H' b=some (.tbl (ps++more))
section
variable {fs fs' ex ex':List Addr} {H H1 H2:Hp} {h h1 h2 h':Heap} {a x e:Addr} {o:HO}
theorem Un.any (u:Un fs ex H H1 h h1) {b:Addr} {ob:Obj} (q:h.get? b=some ob) (n:H b=none) (hx:b∉ex):∃ sl,h1.get? b=some {ob with slots:=sl}:=by
 by_cases hb:b∈fs
 ·exact u.slot b ob q n hb hx
 ·exact ⟨ob.slots,u.keep b ob q n hb hx⟩
theorem Un.kept (k:∀ b u,h.get? b=some u->h'.get? b=some u):Un fs ex H H h h':=
 ⟨λb ob q _ _ _=>k b ob q,λb ob q _ _ _=>⟨ob.slots,k b ob q⟩,λ_ _ _ n _=>n,λb ob q _=>⟨ob,k b ob q⟩,λ_ _ q=>q,λ_ _ _ q=>q,λ_ ps q=>⟨#[],by rw [q]; simp⟩⟩
theorem Un.refl:Un fs ex H H h h:=Un.kept λ_ _ q=>q
theorem Un.laid (k:∀ b u,h.get? b=some u->h'.get? b=some u) (hp:h.objs.size<=a) (hn:H a=none):Un fs ex H (upd H a o) h h' where
 keep:=λb u q _ _ _=>k b u q
 slot:=λb u q _ _ _=>⟨u.slots,k b u q⟩
 free:=λb u q n _=>by rw [za (Nat.ne_of_lt (Nat.lt_of_lt_of_le (Heap.lt_size q) hp))]; exact n
 there:=λb u q _=>⟨u,k b u q⟩
 tups:=λb xs q=>by rw [za (zN q hn)]; exact q
 frzs:=λb u xs q=>by rw [za (zN q hn)]; exact q
 tbls:=λb ps q=>⟨#[],by rw [za (zN q hn),q]; simp⟩
theorem Un.write (mu:Mut (H x)) (he:e=x\/H e=some (.own x)) (k:∀ b u,b≠e->h.get? b=some u->h'.get? b=some u) (heo:∃ u,h'.get? e=some u):Un fs ex H (upd H x o) h h':=by
 have hx:∀ b,H b=none->b≠x:=λb n z=>by subst z; rw [n] at mu; exact mu
 have hb:∀ b,H b=none->b≠e:=λb n z=>by
  subst z;rcases he with r|r
  ·exact hx b n r
  ·rw [n] at r; cases r
 have hm:∀ b u,H b=some u->¬ Mut (some u)->b≠x:=λb u q nm z=>by subst z; rw [q] at mu; exact nm mu
 refine ⟨λb u q n _ _=>k b u (hb b n) q,λb u q n _ _=>⟨u.slots,k b u (hb b n) q⟩,λb u q n _=>by rw [za (hx b n)]; exact n,λb u q _=>?_,
  λb xs q=>by rw [za (hm b _ q λz=>z)]; exact q,λb u xs q=>by rw [za (hm b _ q λz=>z)]; exact q,λb ps q=>⟨#[],by rw [za (hm b _ q λz=>z),q]; simp⟩⟩
 by_cases hbe:b=e
 ·subst hbe; exact heo
 ·exact ⟨u,k b u hbe q⟩
end
noncomputable def trk (h:Heap) (H:Hp):List Addr:=(List.range h.objs.size).filter λa=>(H a).isSome
noncomputable def hidT (h:Heap) (H:Hp):Heap:=PySem.W.hideAll h (trk h H)
theorem hidT_size (h:Heap) (H:Hp):(hidT h H).objs.size=h.objs.size:=PySem.W.hideAll_size _ _
theorem hidT_get {h:Heap} {H:Hp} {b:Addr} {o:Obj} (e:h.get? b=some o) (n:H b=none):(hidT h H).get? b=some o:=
 PySem.W.hideAll_get _ e λhm=>by
  have q:(H b).isSome=true:=(List.mem_filter.mp hm).2;rw [n] at q; simp at q
theorem of_hidT {h:Heap} {H:Hp} {b:Addr} {o:Obj} (e:(hidT h H).get? b=some o):h.get? b=some o/\H b=none:=by
 have e':h.get? b=some o:=PySem.W.of_hideAll (trk h H) e;refine ⟨e',?_⟩;cases q:H b with
 |none=>rfl
 |some x=>
  have hm:b∈trk h H:=List.mem_filter.mpr ⟨List.mem_range.mpr (Heap.lt_size e'),by simp [q]⟩
  have z:(hidT h H).get? b=none:=PySem.W.hideAll_none (trk h H) hm;rw [z] at e; cases e
end L2
namespace L2
open PySem PySem.Spec PyProof.Rows
structure Mod (K:Frag) (mg:Str->Option Value) (base:Heap):Prop where
 kin:K.In base
 glob:base.Ns mainGlobals mg
 blt:∃ mb,base.Ns builtinsNs mb/\∀ x:Str,x≠"__name__"->mb x=bootBuiltins x
 nolimit:base.NoLimit
structure Cx where
 prog:Program
 w:World
 K:Frag
 mg:Str->Option Value
 base:Heap
 A:Around
 N:List Str
 s₀:Shared
 H₀:Hp
 env:Env
 outer:List Env
 stack:List Env
 ex:List Addr
 fn:Str->Bool
 calm:Bool
 pn:List (Addr × Obj)
 xe:Value->Shared->Prop
noncomputable def frs (l:List Env):List Addr:=l.filterMap (·.frame)
noncomputable abbrev Cx.fs (X:Cx):List Addr:=frs X.outer
noncomputable def Vis (sc:Scope) (x:Str):Prop:=sc.names.lookup x=some .local\/sc.names.lookup x=some .cell\/sc.names.lookup x=some .free
noncomputable def Loc (sc:Scope) (x:Str):Prop:=sc.names.lookup x=some .local\/sc.names.lookup x=some .cell
noncomputable def Look (env:Env) (h:Heap) (m:Str->Option Value) (x:Str) (u:Value):Prop:=
 (env.kindOf x=some .local/\m x=some u)\/((env.kindOf x=some .cell\/env.kindOf x=some .free)/\∃ c,env.cells.lookup x=some c/\h.IsCell c (some u))
structure Cx.Ok (X:Cx):Prop where
 mod:Mod X.K X.mg X.base
 kind:X.env.scope.kind=.function
 glob:X.env.globals=mainGlobals
 blt:X.env.builtins=builtinsNs
 above:X.s₀.heap.objs.size<=X.env.locals
 inj:∀ x y c,X.env.cells.lookup x=some c->X.env.cells.lookup y=some c->x=y
 has:∀ x,(X.env.kindOf x=some .cell\/X.env.kindOf x=some .free)->∃ c,X.env.cells.lookup x=some c
 cab:∀ x c,X.fn x=true->X.env.cells.lookup x=some c->X.s₀.heap.objs.size<=c
 hd:X.calm=true->X.A.handled=none
 frames:X.A.frames=some X.stack
 stk:X.stack=X.outer\/(X.stack=X.env::X.outer/\X.env.frame=some X.env.locals)
 exf:∀ b∈X.ex,b≠X.env.locals/\∀ x c,X.env.cells.lookup x=some c->c≠b
 bs:∀ b o,X.base.get? b=some o->X.s₀.heap.get? b=some o/\X.H₀ b=none
 bsz:X.base.objs.size<=X.s₀.heap.objs.size
 noex:∀ b o,X.base.get? b=some o->b∉X.ex
 exfs:∀ b∈X.ex,b∉X.fs
 funs:X.s₀.heap.FunFrames X.base X.outer
 frf:∀ b∈X.fs,X.H₀ b=none
structure Inv (X:Cx) (pins:List (Addr × Obj)) (σ:List (Option V)) (H:Hp) (s:Shared):Prop where
 ok:X.Ok
 os:s.os=X.s₀.os
 bare:AllBare s.gens
 base:Un X.fs X.ex X.H₀ H X.s₀.heap s.heap
 loc:∃ m,s.heap.Ns X.env.locals m/\∀ (i:Nat) (x:Str) (v:V),X.N[i]?=some x->σ[i]?=some (some v)->Vis X.env.scope x->∃ u,RelV v u/\Look X.env s.heap m x u
 cell:∀ x c,X.env.cells.lookup x=some c->∃ v,s.heap.IsCell c v
 free:H X.env.locals=none
 freeC:∀ x c,X.env.cells.lookup x=some c->H c=none
 pin:∀ p∈X.pn++pins,s.heap.get? p.1=some p.2/\H p.1=none/\p.1≠X.env.locals/\p.1∉X.fs/\∀ v,p.2.data≠.cell v
 hok:HOk X.prog X.w H s.heap
 len:σ.length=X.N.length
section
variable {X:Cx} {pins:List (Addr × Obj)} {σ:List (Option V)} {H H':Hp} {s:Shared} {h':Heap}
theorem Cx.Ok.nofr (ok:X.Ok) {b:Addr} {o:Obj} (e:X.base.get? b=some o):b∉X.fs:=λhb=>by
 have:=(ok.funs.mem hb).1;rw [e] at this; cases this
theorem Inv.bs (I:Inv X pins σ H s):∀ b o,X.base.get? b=some o->s.heap.get? b=some o/\H b=none:=λb o e=>
 ⟨I.base.keep b o (I.ok.bs b o e).1 (I.ok.bs b o e).2 (I.ok.nofr e) (I.ok.noex b o e),I.base.free b o (I.ok.bs b o e).1 (I.ok.bs b o e).2 (I.ok.noex b o e)⟩
theorem Inv.bk (I:Inv X pins σ H s):∀ b o,X.base.get? b=some o->s.heap.get? b=some o:=λb o e=>(I.bs b o e).1
theorem Inv.mod (I:Inv X pins σ H s):Mod X.K X.mg X.base:=I.ok.mod
theorem Inv.kIn (I:Inv X pins σ H s):X.K.In s.heap:=I.ok.mod.kin.keeps I.bk
theorem Inv.lt (I:Inv X pins σ H s):X.env.locals < s.heap.objs.size:=let ⟨_,hn,_⟩:=I.loc; hn.lt
theorem Inv.sz (I:Inv X pins σ H s):X.s₀.heap.objs.size<=s.heap.objs.size:=Nat.le_trans I.ok.above (Nat.le_of_lt I.lt)
theorem Inv.nofs (I:Inv X pins σ H s) {a:Addr} (h:s.heap.objs.size<=a):a∉X.fs:=λhb=>by
 obtain ⟨_,o,ho,_⟩:=I.ok.funs.mem hb;exact absurd (Nat.lt_of_lt_of_le (Heap.lt_size ho) (Nat.le_trans I.sz h)) (Nat.lt_irrefl _)
theorem Inv.cne (I:Inv X pins σ H s):∀ x c,X.env.cells.lookup x=some c->c≠X.env.locals:=λx c e z=>by
 obtain ⟨v,o,ho,hd⟩:=I.cell x c e;obtain ⟨m,⟨o',es,ep,ho',hd',_⟩,_⟩:=I.loc;rw [z,ho'] at ho; cases ho; rw [hd'] at hd; cases hd
theorem Inv.funs (I:Inv X pins σ H s):s.heap.FunFrames X.base X.outer:=by
 have all:∀ (l:List Env),(∀ b∈frs l,b∈X.fs)->X.s₀.heap.FunFrames X.base l->s.heap.FunFrames X.base l:=by
  intro l;induction l with
  |nil=>intro _ _; trivial
  |cons env r ih=>
   intro hs hl;obtain ⟨hk,⟨L,o,hf,hn,ho,hd⟩,hr⟩:=hl;have hL:L∈X.fs:=hs L (by unfold frs; rw [List.filterMap_cons,hf]; exact List.mem_cons_self)
   obtain ⟨sl,e⟩:=I.base.slot L o ho (I.ok.frf L hL) hL λz=>I.ok.exfs L z hL
   exact ⟨hk,⟨L,_,hf,hn,e,hd⟩,ih (λb hb=>hs b (by unfold frs; rw [List.filterMap_cons,hf]; exact List.mem_cons_of_mem _ hb)) hr⟩
 exact all X.outer (λ_ hb=>hb) I.ok.funs
theorem Inv.stack (I:Inv X pins σ H s):s.heap.FunFrames X.base X.stack:=by
 rcases I.ok.stk with e|⟨e,hf⟩
 ·rw [e]; exact I.funs
 ·rw [e];obtain ⟨m,hn,_⟩:=I.loc;refine .cons (by rw [I.ok.kind]; decide) hf hn ?_ I.funs
  exact Heap.get?_none_of_le (Nat.le_trans I.ok.bsz I.ok.above)
theorem Inv.stkSub (I:Inv X pins σ H s):∀ b∈frs X.stack,b∈X.env.locals::X.fs:=λb hb=>by
 rcases I.ok.stk with e|⟨e,hf⟩
 ·rw [e] at hb; exact List.mem_cons_of_mem _ hb
 ·rw [e] at hb;unfold frs at hb;rw [List.filterMap_cons,hf] at hb;exact hb
theorem Inv.stkFree (I:Inv X pins σ H s):∀ b∈frs X.stack,H b=none:=λb hb=>by
 rcases List.mem_cons.mp (I.stkSub b hb) with e|hb
 ·rw [e]; exact I.free
 ·obtain ⟨_,o,ho,_⟩:=I.ok.funs.mem hb;exact I.base.free b o ho (I.ok.frf b hb) λz=>I.ok.exfs b z hb
theorem Inv.step {g':Array GenState} {t':Nat} {d':Drawn} {ch:List Addr} (I:Inv X pins σ H s)
  (hch:∀ b∈ch,(b∈X.ex\/X.s₀.heap.objs.size<=b)/\b≠X.env.locals/\(∀ x c,X.env.cells.lookup x=some c->c≠b)/\∀ p∈X.pn++pins,p.1≠b)
  (keep:∀ b o,b≠X.env.locals->b∉X.fs->b∉ch->s.heap.get? b=some o->H b=none->h'.get? b=some o)
  (slot:∀ b o,b≠X.env.locals->b∈X.fs->b∉ch->s.heap.get? b=some o->H b=none->∃ sl,h'.get? b=some {o with slots:=sl}) (free:∀ b o,b∉ch->s.heap.get? b=some o->H b=none->H' b=none)
  (there:∀ b o,b∉ch->s.heap.get? b=some o->∃ o',h'.get? b=some o')
  (tups:∀ b xs,H b=some (.tup xs)->H' b=some (.tup xs)) (frzs:∀ b o u,H b=some (.frz o u)->H' b=some (.frz o u)) (tbls:∀ b ps,H b=some (.tbl ps)->∃ more,H' b=some (.tbl (ps++more)))
  (ns:∀ m,s.heap.Ns X.env.locals m->h'.Ns X.env.locals m) (hok:HOk X.prog X.w H' h') (hg:AllBare g') :
  Inv X pins σ H' {s with heap:=h',gens:=g',drawn:=d',toks:=t'}:=by
 have neL:∀ b o,X.s₀.heap.get? b=some o->b≠X.env.locals:=λb o e=>Nat.ne_of_lt (Nat.lt_of_lt_of_le (Heap.lt_size e) I.ok.above)
 have neC:∀ b o,X.s₀.heap.get? b=some o->b∉X.ex->b∉ch:=λb o e hx hb=>by
  rcases (hch b hb).1 with z|z
  ·exact hx z
  ·exact absurd (Nat.lt_of_lt_of_le (Heap.lt_size e) z) (Nat.lt_irrefl _)
 have cellK:∀ x c,X.env.cells.lookup x=some c->∀ v,s.heap.IsCell c v->h'.IsCell c v:=λx c e v ⟨o,ho,hd⟩=>by
  have nch:c∉ch:=λz=>(hch c z).2.2.1 x c e rfl
  by_cases hc:c∈X.fs
  ·obtain ⟨sl,q⟩:=slot c o (I.cne x c e) hc nch ho (I.freeC x c e);exact ⟨_,q,hd⟩
  ·exact ⟨o,keep c o (I.cne x c e) hc nch ho (I.freeC x c e),hd⟩
 refine ⟨I.ok,I.os,hg,⟨λb o e n hb hx=>?_,λb o e n hb hx=>?_,λb o e n hx=>?_,λb o e hx=>?_,λb xs e=>tups b xs (I.base.tups b xs e),λb o xs e=>frzs b o xs (I.base.frzs b o xs e),λb ps e=>?_⟩,?_,λx c e=>?_,?_,λx c e=>?_,λp hp=>?_,hok,I.len⟩
 ·exact keep b o (neL b o e) hb (neC b o e hx) (I.base.keep b o e n hb hx) (I.base.free b o e n hx)
 ·obtain ⟨sl,e1⟩:=I.base.slot b o e n hb hx;obtain ⟨sl',e2⟩:=slot b _ (neL b o e) hb (neC b o e hx) e1 (I.base.free b o e n hx);exact ⟨sl',e2⟩
 ·obtain ⟨o',e1⟩:=I.base.there b o e hx;exact free b o' (neC b o e hx) e1 (I.base.free b o e n hx)
 ·obtain ⟨o',e1⟩:=I.base.there b o e hx;exact there b o' (neC b o e hx) e1
 ·obtain ⟨m1,e1⟩:=I.base.tbls b ps e;obtain ⟨m2,e2⟩:=tbls b _ e1;exact ⟨m1++m2,by rw [e2,Array.append_assoc]⟩
 ·obtain ⟨m,hn,hl⟩:=I.loc;refine ⟨m,ns m hn,λi x v e1 e2 e3=>?_⟩
  obtain ⟨u,r,l⟩:=hl i x v e1 e2 e3;refine ⟨u,r,?_⟩;rcases l with l|⟨k,c,e,z⟩
  ·exact .inl l
  ·exact .inr ⟨k,c,e,cellK x c e _ z⟩
 ·obtain ⟨v,z⟩:=I.cell x c e;exact ⟨v,cellK x c e v z⟩
 ·obtain ⟨m,⟨o,_,_,ho,_⟩,_⟩:=I.loc;exact free _ o (λz=>(hch _ z).2.1 rfl) ho I.free
 ·obtain ⟨v,o,ho,hd⟩:=I.cell x c e;exact free c o (λz=>(hch c z).2.2.1 x c e rfl) ho (I.freeC x c e)
 ·obtain ⟨e,n,ne,nf,d⟩:=I.pin p hp;have nch:p.1∉ch:=λz=>(hch p.1 z).2.2.2 p hp rfl
  exact ⟨keep p.1 p.2 ne nf nch e n,free p.1 p.2 nch e n,ne,nf,d⟩
theorem Inv.un {t':Nat} (I:Inv X pins σ H s) (u:Un X.fs [] H H' s.heap h') (hok:HOk X.prog X.w H' h'):Inv X pins σ H' {s with heap:=h',toks:=t'}:=by
 obtain ⟨m,⟨o,es,ep,ho,r⟩,_⟩:=id I.loc;obtain ⟨sl,hL⟩:=u.any ho I.free (by simp)
 exact I.step (g':=s.gens) (d':=s.drawn) (ch:=[]) (λ_ z=>nomatch z) (λb o _ hb _ e n=>u.keep b o e n hb (by simp)) (λb o _ hb _ e n=>u.slot b o e n hb (by simp)) (λb o _ e n=>u.free b o e n (by simp)) (λb o _ e=>u.there b o e (by simp)) u.tups u.frzs u.tbls (λm' hm=>by
  obtain ⟨o',es',ep',ho',r'⟩:=hm;rw [ho] at ho'; cases ho'
  exact ⟨_,es',ep',hL,r'⟩) hok I.bare
theorem Inv.call {g':Array GenState} {t':Nat} {d':Drawn} {ch:List Addr} (I:Inv X pins σ H s) (u:Un (frs X.stack) ch H H' s.heap h') (hok:HOk X.prog X.w H' h') (hg:AllBare g')
  (hch:∀ b∈ch,(b∈X.ex\/X.s₀.heap.objs.size<=b)/\b≠X.env.locals/\(∀ x c,X.env.cells.lookup x=some c->c≠b)/\∀ p∈X.pn++pins,p.1≠b) :
  Inv X pins σ H' {s with heap:=h',gens:=g',drawn:=d',toks:=t'}:=by
 obtain ⟨m,⟨o,es,ep,ho,r⟩,_⟩:=id I.loc;obtain ⟨sl,hL⟩:=u.any ho I.free λz=>(hch _ z).2.1 rfl
 exact I.step (ch:=ch) hch (λb o hL hb hc e n=>u.keep b o e n (λz=>(List.mem_cons.mp (I.stkSub b z)).elim hL hb) hc) (λb o _ _ hc e n=>u.any e n hc) (λb o hc e n=>u.free b o e n hc) (λb o hc e=>u.there b o e hc) u.tups u.frzs u.tbls (λm' hm=>by
  obtain ⟨o',es',ep',ho',r'⟩:=hm;rw [ho] at ho'; cases ho'
  exact ⟨_,es',ep',hL,r'⟩) hok hg
theorem Inv.turned {t':Nat} {it:Addr} (I:Inv X pins σ H s) (k:∀ b o,b≠it->s.heap.get? b=some o->h'.get? b=some o) (hn:H it=none) (hL:it≠X.env.locals)
  (h1:it∈X.ex\/X.s₀.heap.objs.size<=it) (h2:∀ x c,X.env.cells.lookup x=some c->c≠it) (h3:∀ p∈X.pn++pins,p.1≠it):Inv X pins σ H {s with heap:=h',toks:=t'}:=by
 have nit:∀ b u,H b=some u->b≠it:=λb u e z=>by rw [z,hn] at e; cases e
 refine I.step (g':=s.gens) (d':=s.drawn) (ch:=[it]) (λb hb=>?_) (λb o _ _ hc e _=>k b o (λz=>hc (by simp [z])) e) (λb o _ _ hc e _=>⟨o.slots,k b o (λz=>hc (by simp [z])) e⟩) (λ_ _ _ _ n=>n)
  (λb o hc e=>⟨o,k b o (λz=>hc (by simp [z])) e⟩) (λ_ _ e=>e) (λ_ _ _ e=>e) (λb ps e=>⟨#[],by rw [e]; simp⟩) (λm hm=>?_) (λb u e=>?_) I.bare
 ·have e:b=it:=by simpa using hb
  subst e;exact ⟨h1,hL,h2,h3⟩
 ·obtain ⟨o,es,ep,ho,r⟩:=hm;exact ⟨o,es,ep,k _ o (Ne.symm hL) ho,r⟩
 ·refine (I.hok b u e).stay (λc v hc q=>k c v ?_ q) (λ_ q=>q) λ_ _ q=>q
  rcases hc with z|z
  ·rw [z]; exact nit b u e
  ·exact nit c _ z
theorem Inv.tok (I:Inv X pins σ H s) (t:Nat):Inv X pins σ H {s with toks:=t}:=I.un (h':=s.heap) (t':=t) Un.refl I.hok
theorem Inv.kept {t':Nat} (I:Inv X pins σ H s) (k:∀ b u,s.heap.get? b=some u->h'.get? b=some u):Inv X pins σ H {s with heap:=h',toks:=t'}:=I.un (Un.kept k) (I.hok.kept k)
theorem Inv.laid {a:Addr} {o:HO} {t':Nat} (I:Inv X pins σ H s) (k:∀ b u,s.heap.get? b=some u->h'.get? b=some u) (hp:s.heap.objs.size<=a) (new:zu X.prog X.w (upd H a o) h' a o) :
  Inv X pins σ (upd H a o) {s with heap:=h',toks:=t'}:=I.un (Un.laid k hp (I.hok.fresh hp)) (I.hok.laid k hp new)
theorem Inv.write {x e:Addr} {o:HO} {t':Nat} (I:Inv X pins σ H s) (mu:Mut (H x)) (he:e=x\/H e=some (.own x)) (k:∀ b u,b≠e->s.heap.get? b=some u->h'.get? b=some u) (heo:∃ u,h'.get? e=some u)
  (new:zu X.prog X.w (upd H x o) h' x o):Inv X pins σ (upd H x o) {s with heap:=h',toks:=t'}:=I.un (Un.write mu he k heo) (I.hok.write mu he k heo new)
theorem Inv.pins_of {pins':List (Addr × Obj)} (I:Inv X pins σ H s) (h:∀ p∈pins',s.heap.get? p.1=some p.2/\H p.1=none/\p.1≠X.env.locals/\p.1∉X.fs/\∀ v,p.2.data≠.cell v):Inv X pins' σ H s:=
 ⟨I.ok,I.os,I.bare,I.base,I.loc,I.cell,I.free,I.freeC,λp hp=>(List.mem_append.mp hp).elim (λz=>I.pin p (List.mem_append_left _ z)) (h p),I.hok,I.len⟩
theorem nodup_ix {N:List Str} (hN:N.Nodup) {i j:Nat} {x:Str} (a:N[i]?=some x) (b:N[j]?=some x):i=j:=by
 obtain ⟨h1,e1⟩:=List.getElem?_eq_some_iff.mp a;obtain ⟨h2,e2⟩:=List.getElem?_eq_some_iff.mp b;exact (List.getElem_inj hN).mp (e1.trans e2.symm)
theorem store_ok2 {M:Model} {A:Around} {E:Value->Shared->Prop} {i:Nat} {x:Str} {v:V} {u:Value} {Q:Unit->Shared->Prop} (I:Inv X pins σ H s) (hN:X.N.Nodup) (hi:X.N[i]?=some x) (hx:Loc X.env.scope x) (r:RelV v u)
  (h:∀ s',Inv X pins (σ.set i (some v)) H s'->(∃ a,Heap.SameBut a s.heap s'.heap/\(a=X.env.locals\/X.env.cells.lookup x=some a))->Q () s') (hf:X.fn x=true\/X.env.scope.names.lookup x=some .local:=by first|exact .inl rfl|exact .inr rfl|assumption):wpAny M A (storeName X.env x u) Q E s:=by
 obtain ⟨m,hn,hl⟩:=id I.loc;have hcls:(X.env.scope.kind == .class || (X.env.scope.kind == .module && X.env.locals != X.env.globals))=false:=by rw [I.ok.kind]; rfl
 have hiσ:i < σ.length:=by rw [I.len]; exact (List.getElem?_eq_some_iff.mp hi).1
 have cne:=I.cne;have tracked:∀ {a:Addr} {h':Heap},(∃ o,s.heap.get? a=some o/\H a=none)->Heap.SameBut a s.heap h'->HOk X.prog X.w H h':=λ{a h'} ha hs b ob e=>by
  obtain ⟨_,_,hfree⟩:=ha;refine (I.hok b ob e).stay (λc w' hc q=>(hs.2 c ?_).trans q) (λ_ q=>q) λ_ _ q=>q
  rintro rfl;rcases hc with rfl|hc
  ·rw [hfree] at e; cases e
  ·rw [hfree] at hc; cases hc
 rcases hx with hk|hk
 ·refine wpAny_storeName_local hk hn (λh' hn' hs=>?_) hcls
  obtain ⟨oL,_,_,hoL,_⟩:=id hn;refine h _ ⟨I.ok,I.os,I.bare,⟨λb o e n hb hx=>?_,λb o e n hb hx=>?_,I.base.free,λb o e hx=>?_,I.base.tups,I.base.frzs,I.base.tbls⟩,⟨_,hn',λj y v' e1 e2 e3=>?_⟩,λy c e=>?_,I.free,I.freeC,λp hp=>?_,tracked ⟨oL,hoL,I.free⟩ hs,by simpa using I.len⟩ ⟨_,hs,.inl rfl⟩
  ·exact (hs.2 b (Nat.ne_of_lt (Nat.lt_of_lt_of_le (Heap.lt_size e) I.ok.above))).trans (I.base.keep b o e n hb hx)
  ·obtain ⟨sl,e1⟩:=I.base.slot b o e n hb hx;exact ⟨sl,(hs.2 b (Nat.ne_of_lt (Nat.lt_of_lt_of_le (Heap.lt_size e) I.ok.above))).trans e1⟩
  ·obtain ⟨o',e1⟩:=I.base.there b o e hx;exact ⟨o',(hs.2 b (Nat.ne_of_lt (Nat.lt_of_lt_of_le (Heap.lt_size e) I.ok.above))).trans e1⟩
  ·by_cases hj:j=i
   ·subst hj;rw [hi] at e1; cases e1
    rw [List.getElem?_set_self hiσ] at e2;cases e2
    exact ⟨u,r,.inl ⟨hk,by simp⟩⟩
   ·rw [List.getElem?_set_ne (Ne.symm hj)] at e2;obtain ⟨u',r',q⟩:=hl j y v' e1 e2 e3;refine ⟨u',r',?_⟩;rcases q with ⟨k,e⟩|⟨k,c,e,z⟩
    ·refine .inl ⟨k,?_⟩;have:y≠x:=λe=>hj (nodup_ix hN e1 (e▸hi))
     simp [this,e]
    ·exact .inr ⟨k,c,e,z.sameBut hs (cne y c e)⟩
  ·obtain ⟨w',z⟩:=I.cell y c e;exact ⟨w',z.sameBut hs (cne y c e)⟩
  ·obtain ⟨e,n,ne,nf,d⟩:=I.pin p hp;exact ⟨(hs.2 p.1 ne).trans e,n,ne,nf,d⟩
 ·have hfn:X.fn x=true:=by
   rcases hf with z|z
   ·exact z
   ·rw [z] at hk; cases hk
  obtain ⟨c,hc⟩:=I.ok.has x (.inl hk);obtain ⟨w',z⟩:=I.cell x c hc;refine wpAny_storeName_cell I.ok.kind hk hc z (λh' hc' hs=>?_)
  obtain ⟨oc,hoc,hocd⟩:=id z;refine h {s with heap:=h'} ⟨I.ok,I.os,I.bare,⟨λb o e n hb hx=>?_,λb o e n hb hx=>?_,I.base.free,λb o e hx=>?_,I.base.tups,I.base.frzs,I.base.tbls⟩,⟨m,hn.sameBut hs (Ne.symm (cne x c hc)),λj y v' e1 e2 e3=>?_⟩,λy c' e=>?_,I.free,I.freeC,λp hp=>?_,tracked ⟨oc,hoc,I.freeC x c hc⟩ hs,by simpa using I.len⟩ ⟨c,hs,.inr hc⟩
  ·exact (hs.2 b (Nat.ne_of_lt (Nat.lt_of_lt_of_le (Heap.lt_size e) (I.ok.cab x c hfn hc)))).trans (I.base.keep b o e n hb hx)
  ·obtain ⟨sl,e1⟩:=I.base.slot b o e n hb hx;exact ⟨sl,(hs.2 b (Nat.ne_of_lt (Nat.lt_of_lt_of_le (Heap.lt_size e) (I.ok.cab x c hfn hc)))).trans e1⟩
  ·obtain ⟨o',e1⟩:=I.base.there b o e hx;exact ⟨o',(hs.2 b (Nat.ne_of_lt (Nat.lt_of_lt_of_le (Heap.lt_size e) (I.ok.cab x c hfn hc)))).trans e1⟩
  ·by_cases hj:j=i
   ·subst hj;rw [hi] at e1; cases e1
    rw [List.getElem?_set_self hiσ] at e2;cases e2
    exact ⟨u,r,.inr ⟨.inl hk,c,hc,hc'⟩⟩
   ·rw [List.getElem?_set_ne (Ne.symm hj)] at e2;obtain ⟨u',r',q⟩:=hl j y v' e1 e2 e3;refine ⟨u',r',?_⟩;rcases q with q|⟨k,c',e,z'⟩
    ·exact .inl q
    ·refine .inr ⟨k,c',e,z'.sameBut hs ?_⟩;rintro rfl;exact hj (nodup_ix hN e1 (I.ok.inj _ _ _ e hc▸hi))
  ·by_cases hcc:c'=c
   ·subst hcc; exact ⟨_,hc'⟩
   ·obtain ⟨w2,z2⟩:=I.cell y c' e;exact ⟨w2,z2.sameBut hs hcc⟩
  ·obtain ⟨e,n,ne,nf,d⟩:=I.pin p hp;refine ⟨(hs.2 p.1 ?_).trans e,n,ne,nf,d⟩;intro q;rw [q,hoc] at e;have q':oc=p.2:=Option.some.inj e;exact d w' (by rw [<- q']; exact hocd)
theorem Yo {M:Model} {A:Around} {E:Value->Shared->Prop} {i:Nat} {x:Str} {v:V} {u:Value} {Q:Unit->Shared->Prop} (I:Inv X pins σ H s) (hN:X.N.Nodup) (hi:X.N[i]?=some x) (hx:Loc X.env.scope x) (r:RelV v u)
  (h:∀ s',Inv X pins (σ.set i (some v)) H s'->Q () s') (hf:X.fn x=true\/X.env.scope.names.lookup x=some .local:=by first|exact .inl rfl|exact .inr rfl|assumption):wpAny M A (storeName X.env x u) Q E s:=
 store_ok2 I hN hi hx r (λs' I' _=>h s' I') hf
end
noncomputable abbrev XK:=Value->Option Addr->Hp->Prop
noncomputable abbrev St:=List (Option V)
noncomputable abbrev VK:=V->Hp->Prop
noncomputable abbrev TE:=St->Hp->VK->Prop
noncomputable abbrev TT:=St->Hp->(Bool->Hp->Prop)->Prop
noncomputable abbrev TA:=St->Hp->(List V->Hp->Prop)->Prop
structure Ends where
 nx:St->Hp->Prop
 rt:VK
 bk:St->Hp->Prop:=λ_ _=>False
 ct:St->Hp->Prop:=λ_ _=>False
noncomputable abbrev TS:=Ends->St->Hp->Prop
noncomputable def EP (X:Cx) (pins:List (Addr × Obj)) (σ:St) (Q:VK) (u:Value) (s':Shared):Prop:=∃ v H',Inv X pins σ H' s'/\RelV v u/\Q v H'
noncomputable def TP (X:Cx) (pins:List (Addr × Obj)) (σ:St) (Q:Bool->Hp->Prop) (b:Bool) (s':Shared):Prop:=∃ H',Inv X pins σ H' s'/\Q b H'
noncomputable def AP (X:Cx) (pins:List (Addr × Obj)) (σ:St) (Q:List V->Hp->Prop) (us:List Value) (s':Shared):Prop:=∃ vs H',Inv X pins σ H' s'/\Vals vs us/\Q vs H'
noncomputable def SP (X:Cx) (pins:List (Addr × Obj)) (D:Ends) (f:Flow) (s':Shared):Prop:=
 match f with
 |.next=>∃ σ' H',Inv X pins σ' H' s'/\D.nx σ' H'
 |.brk=>∃ σ' H',Inv X pins σ' H' s'/\D.bk σ' H'
 |.cont=>∃ σ' H',Inv X pins σ' H' s'/\D.ct σ' H'
 |.ret u=>∃ v σ' H',Inv X pins σ' H' s'/\RelV v u/\D.rt v H'
noncomputable def PE (X:Cx) (e:Expr) (t:TE):Prop:=
 ∀ (pins:List (Addr × Obj)) (s:Shared) (σ:St) (H:Hp) (Q:VK),Inv X pins σ H s->t σ H Q->wpAny (model X.prog X.w) X.A (eval e X.env) (EP X pins σ Q) X.xe s
noncomputable def PT (X:Cx) (e:Expr) (t:TT):Prop:=
 ∀ (pins:List (Addr × Obj)) (s:Shared) (σ:St) (H:Hp) (Q:Bool->Hp->Prop),Inv X pins σ H s->t σ H Q->wpAny (model X.prog X.w) X.A (isTrue e X.env (eval e X.env)) (TP X pins σ Q) X.xe s
noncomputable def PW (X:Cx) (e:Expr) (t:TT):Prop:=
 ∀ (whole:Sem Value) (pins:List (Addr × Obj)) (s:Shared) (σ:St) (H:Hp) (Q:Bool->Hp->Prop),Inv X pins σ H s->t σ H Q->wpAny (model X.prog X.w) X.A (isTrue e X.env whole) (TP X pins σ Q) X.xe s
theorem PW.pt {X:Cx} {e:Expr} {t:TT} (h:PW X e t):PT X e t:=h _
noncomputable def PA (X:Cx) (es:List Expr) (t:TA):Prop:=
 ∀ (pos:Pos) (pins:List (Addr × Obj)) (s:Shared) (σ:St) (H:Hp) (Q:List V->Hp->Prop),Inv X pins σ H s->t σ H Q->wpAny (model X.prog X.w) X.A (spliced (backTo pos (starEach es X.env))) (AP X pins σ Q) X.xe s
noncomputable def PS (X:Cx) (st:Stmt) (t:TS):Prop:=
 ∀ (pins:List (Addr × Obj)) (s:Shared) (σ:St) (H:Hp) (D:Ends),Inv X pins σ H s->t D σ H->wpAny (model X.prog X.w) X.A (exec st X.env) (SP X pins D) X.xe s
noncomputable def PSs (X:Cx) (st:List Stmt) (t:TS):Prop:=
 ∀ (pins:List (Addr × Obj)) (s:Shared) (σ:St) (H:Hp) (D:Ends),Inv X pins σ H s->t D σ H->wpAny (model X.prog X.w) X.A (execs st X.env) (SP X pins D) X.xe s
theorem thn {α:Type} {t:Sem α} {Q Q':α->Shared->Prop} {M:Model} {A:Around} {E:Value->Shared->Prop} {s:Shared} (h:wpAny M A t Q E s) (hQ:∀ a s,Q a s->Q' a s):wpAny M A t Q' E s:=wpAny_mono h hQ λ_ _ x=>x
end L2
namespace L2
open PySem PySem.Spec PyProof.Rows
section
variable {X:Cx}
noncomputable def tVar (i:Nat):TE:=λσ H Q=>∃ v,σ[i]?=some (some v)/\Q v H
noncomputable def tC (v:V):TE:=λ_ H Q=>Q v H
theorem pe_var {i:Nat} {x:Str} {pos:Pos} (hN:X.N[i]?=some x) (hv:Vis X.env.scope x) (hd:(x == ("__debug__" : Str))=false:=by decide) (hcd:(x == ("__classdict__" : Str))=false:=by decide):PE X (.Name x pos) (tVar i):=by
 intro pins s σ H Q I h;obtain ⟨v,e,h⟩:=h;obtain ⟨m,hn,hl⟩:=I.loc;obtain ⟨u,r,l⟩:=hl i x v hN e hv;have fin:EP X pins σ Q u s:=⟨v,H,I,r,h⟩;rcases l with ⟨hk,hm⟩|⟨hk,c,hc,hcell⟩
 ·exact wpAny_Name (wpAny_loadName_local I.ok.kind hk hn hm fin) hd
 ·rcases hk with hk|hk
  ·exact wpAny_Name (wpAny_loadName_cell I.ok.kind hk hc hcell fin) hd
  ·exact wpAny_Name (wpAny_loadName_free I.ok.kind hk hc hcell fin hcd) hd
theorem zC {i j pos}:PE X (.Constant (.int i) j pos) (tC (.int i)):=λ_ _ _ H _ I h=>wpAny_Constant_int ⟨.int i,H,I.tok _,⟨_,rfl⟩,h⟩
theorem jL {b j pos}:PE X (.Constant (.bool b) j pos) (tC (.bl b)):=λ_ _ _ H _ I h=>Constant_bool ⟨.bl b,H,I,rfl,h⟩
theorem jC {j pos}:PE X (.Constant .none j pos) (tC .non):=λ_ _ _ H _ I h=>Constant_none ⟨.non,H,I,rfl,h⟩
theorem jc {x j pos}:PE X (.Constant (.str x) j pos) (tC (.str x)):=λ_ _ _ H _ I h=>Calls.Constant_str ⟨.str x,H,I.tok _,⟨_,rfl⟩,h⟩
noncomputable def Gl (X:Cx) (x:Str):Prop:=X.env.kindOf x=some .globalImplicit
theorem ld_glob {E:Value->Shared->Prop} {pins:List (Addr × Obj)} {s:Shared} {σ:St} {H:Hp} {x:Str} {u:Value} {pos:Pos} {Q:Value->Shared->Prop} (I:Inv X pins σ H s) (hg:Gl X x) (hm:X.mg x=some u) (h:Q u s)
  (hd:(x == ("__debug__" : Str))=false:=by decide):wpAny (model X.prog X.w) X.A (eval (.Name x pos) X.env) Q E s:=
 Calls.Name_function_global I.ok.kind hg (Calls.loadGlobal_global (by rw [I.ok.glob]; exact I.mod.glob.keeps I.bk) hm h) hd
theorem Ya {E:Value->Shared->Prop} {pins:List (Addr × Obj)} {s:Shared} {σ:St} {H:Hp} {x:Str} {u:Value} {pos:Pos} {Q:Value->Shared->Prop} (I:Inv X pins σ H s) (hg:Gl X x) (hm:X.mg x=none) (hv:bootBuiltins x=some u) (h:Q u s)
  (hn:x≠"__name__":=by decide) (hd:(x == ("__debug__" : Str))=false:=by decide):wpAny (model X.prog X.w) X.A (eval (.Name x pos) X.env) Q E s:=by
 obtain ⟨mb,h1,h2⟩:=I.mod.blt;exact Calls.Name_function_global I.ok.kind hg (Calls.loadGlobal_builtin (by rw [I.ok.glob]; exact I.mod.glob.keeps I.bk) hm (by rw [I.ok.blt]; exact h1.keeps I.bk) ((h2 x hn).trans hv) h) hd
theorem pe_glob {x:Str} {v:V} {u:Value} {pos:Pos} (hg:Gl X x) (hm:X.mg x=some u) (r:RelV v u) (hd:(x == ("__debug__" : Str))=false:=by decide):PE X (.Name x pos) (tC v):=
 λ_ _ _ H _ I h=>ld_glob I hg hm ⟨v,H,I,r,h⟩ hd
theorem pe_bltn {x:Str} {v:V} {u:Value} {pos:Pos} (hg:Gl X x) (hm:X.mg x=none) (hv:bootBuiltins x=some u) (r:RelV v u) (hn:x≠"__name__":=by decide) (hd:(x == ("__debug__" : Str))=false:=by decide):PE X (.Name x pos) (tC v):=
 λ_ _ _ H _ I h=>Ya I hg hm hv ⟨v,H,I,r,h⟩ hn hd
variable {a b:Expr} {ta tb:TE} {pos:Pos}
noncomputable def tB (t:TE):TT:=λσ H Q=>t σ H λx H1=>∃ c,x=.bl c/\Q c H1
theorem zn {e:Expr} {t:TE} (h:PE X e t) (he:∀ whole,isTrue e X.env whole=(do let v <- whole; standAt e.pos; holding [v] (truthy v)):=by intro _; rfl):PT X e (tB t):=by
 intro pins s σ H Q I hw;refine isTrue_plain (thn (h pins s σ H _ I hw) λv s1 ⟨x,H1,I1,r1,q1⟩=>?_) (he _)
 obtain ⟨d,rfl,q⟩:=q1;cases r1
 exact wpAny_truthy_bool ⟨H1,I1,q⟩
variable {tA tB':TT} {rest:List Expr}
noncomputable def tAnd (t u:TT):TT:=λσ H Q=>t σ H λc H1=>if c=true then u σ H1 Q else Q false H1
noncomputable def tOr (t u:TT):TT:=λσ H Q=>t σ H λc H1=>if c=true then Q true H1 else u σ H1 Q
noncomputable def tNot (t:TT):TT:=λσ H Q=>t σ H λc H1=>Q (!c) H1
theorem jx (ha:PT X a tA):PW X (.BoolOp .And [a] pos) tA:=by
 intro wh pins s σ H Q I h;refine isTrue_and (thn (ha pins s σ H Q I h) λc s1 e=>?_)
 cases c with
 |true=>exact isTrue_and_nil e
 |false=>exact e
theorem yt (ha:PT X a tA):PW X (.BoolOp .Or [a] pos) tA:=by
 intro wh pins s σ H Q I h;refine isTrue_or (thn (ha pins s σ H Q I h) λc s1 e=>?_)
 cases c with
 |false=>exact isTrue_or_nil e
 |true=>exact e
theorem Z7 (ha:PT X a tA) (hb:PW X (.BoolOp .And (b::rest) pos) tB'):PW X (.BoolOp .And (a::b::rest) pos) (tAnd tA tB'):=by
 intro wh pins s σ H Q I h;refine isTrue_and (thn (ha pins s σ H _ I h) λc s1 zz=>?_)
 obtain ⟨H1,I1,q1⟩:=zz;cases c with
 |true=>exact hb wh pins s1 σ H1 Q I1 q1
 |false=>exact ⟨H1,I1,q1⟩
theorem jz (ha:PT X a tA) (hb:PW X (.BoolOp .Or (b::rest) pos) tB'):PW X (.BoolOp .Or (a::b::rest) pos) (tOr tA tB'):=by
 intro wh pins s σ H Q I h;refine isTrue_or (thn (ha pins s σ H _ I h) λc s1 zz=>?_)
 obtain ⟨H1,I1,q1⟩:=zz;cases c with
 |true=>exact ⟨H1,I1,q1⟩
 |false=>exact hb wh pins s1 σ H1 Q I1 q1
theorem yR (ha:PT X a tA):PT X (.UnaryOp .Not a pos) (tNot tA):=by
 intro pins s σ H Q I h;exact isTrue_not (ha pins s σ H (λc H1=>Q (!c) H1) I h)
noncomputable def tAndV (ta tb:TE):TE:=λσ H Q=>ta σ H λx H1=>∃ c,x=.bl c/\if c=true then tb σ H1 Q else Q (.bl false) H1
noncomputable def tOrV (ta tb:TE):TE:=λσ H Q=>ta σ H λx H1=>∃ c,x=.bl c/\if c=true then Q (.bl true) H1 else tb σ H1 Q
noncomputable def tNotV (ta:TE):TE:=λσ H Q=>ta σ H λx H1=>∃ c,x=.bl c/\Q (.bl (!c)) H1
theorem yS {op} {t:TE} (h:PE X a t):PE X (.BoolOp op [a] pos) t:=λpins s σ H Q I hw=>BoolOp_one (h pins s σ H Q I hw)
theorem yg (ha:PE X a ta) (hb:PE X (.BoolOp .And (b::rest) pos) tb):PE X (.BoolOp .And (a::b::rest) pos) (tAndV ta tb):=by
 intro pins s σ H Q I h;refine BoolOp_and (thn (ha pins s σ H _ I h) λv s1 zz=>?_)
 obtain ⟨x,H1,I1,r1,q1⟩:=zz;obtain ⟨c,rfl,q1⟩:=q1;cases r1
 refine wpAny_truthy_bool ?_;cases c with
 |true=>exact hb pins s1 σ H1 Q I1 q1
 |false=>exact ⟨.bl false,H1,I1,rfl,q1⟩
theorem pe_or (ha:PE X a ta) (hb:PE X (.BoolOp .Or (b::rest) pos) tb):PE X (.BoolOp .Or (a::b::rest) pos) (tOrV ta tb):=by
 intro pins s σ H Q I h;refine BoolOp_or (thn (ha pins s σ H _ I h) λv s1 zz=>?_)
 obtain ⟨x,H1,I1,r1,q1⟩:=zz;obtain ⟨c,rfl,q1⟩:=q1;cases r1
 refine wpAny_truthy_bool ?_;cases c with
 |false=>exact hb pins s1 σ H1 Q I1 q1
 |true=>exact ⟨.bl true,H1,I1,rfl,q1⟩
theorem pe_not (ha:PE X a ta):PE X (.UnaryOp .Not a pos) (tNotV ta):=by
 intro pins s σ H Q I h;refine UnaryOp_ (thn (ha pins s σ H _ I h) λv s1 zz=>?_)
 obtain ⟨x,H1,I1,r1,q1⟩:=zz;obtain ⟨c,rfl,q1⟩:=q1;cases r1
 exact not_of (wpAny_truthy_bool ⟨.bl (!c),H1,I1,rfl,q1⟩)
noncomputable def tIf (t:TT) (ta tb:TE):TE:=λσ H Q=>t σ H λc H1=>if c=true then ta σ H1 Q else tb σ H1 Q
theorem pe_ifExp {c:Expr} (hc:PT X c tA) (ha:PE X a ta) (hb:PE X b tb):PE X (.IfExp c a b pos) (tIf tA ta tb):=by
 intro pins s σ H Q I h;refine wpAny_IfExp (thn (hc pins s σ H _ I h) λd s1 zz=>?_)
 obtain ⟨H1,I1,q1⟩:=zz;cases d with
 |true=>exact ha pins s1 σ H1 Q I1 q1
 |false=>exact hb pins s1 σ H1 Q I1 q1
end
end L2
namespace L2
open PySem PySem.Spec PyProof.Rows
noncomputable def SqL (K:Frag) (H:Hp) (a:Addr) (xs:List V):Prop:=
 Rd H a (.lst xs)\/
  ∃ (o:Obj) (its:Array Value) (n:Nat),K.lookup a=some o/\o.cls=.type "list"/\o.dict=none/\o.data=.seq its n/\its.size<=sizeLine/\Vals xs its.toList
noncomputable def SqT (K:Frag) (H:Hp) (a:Addr) (xs:List V):Prop:=
 Rd H a (.tup xs)\/
  ∃ (o:Obj) (its:Array Value) (n:Nat),K.lookup a=some o/\o.cls=.type "tuple"/\o.data=.seq its n/\its.size<=sizeLine/\Vals xs its.toList
noncomputable def absV:Value->Option V
 |.none=>some .non
 |.bool b=>some (.bl b)
 |.int i _=>some (.int i)
 |.str x _=>some (.str x)
 |.bytes b _=>some (.byt b)
 |.float b _=>some (.flt b)
 |.ref a=>some (.ref a)
 |.type n=>some (.ty n)
 |_=>none
theorem RelV.abs {x:V} {u:Value} (r:RelV x u):absV u=some x:=by
 cases x with
 |non=>cases r; rfl
 |bl _=>cases r; rfl
 |int _=>obtain ⟨t,rfl⟩:=r; rfl
 |str _=>obtain ⟨t,rfl⟩:=r; rfl
 |byt _=>obtain ⟨t,rfl⟩:=r; rfl
 |flt _=>obtain ⟨t,rfl⟩:=r; rfl
 |ref _=>cases r; rfl
 |ty _=>cases r; rfl
theorem RelV.inj {x y:V} {u:Value} (r:RelV x u) (q:RelV y u):x=y:=Option.some.inj (r.abs.symm.trans q.abs)
theorem Vals.inj:∀ {xs ys:List V} {us:List Value},Vals xs us->Vals ys us->xs=ys
 |_,_,_,.nil,.nil=>rfl
 |_,_,_,.cons r t,.cons r' t'=>by rw [r.inj r',Vals.inj t t']
section
variable {X:Cx} {pins:List (Addr × Obj)} {σ:St} {H:Hp} {s:Shared} {a:Addr} {xs ys:List V}
theorem SqL.of {K:Frag} (h:H a=some (.lst xs)):SqL K H a xs:=.inl (.inl h)
theorem SqT.of {K:Frag} (h:H a=some (.tup xs)):SqT K H a xs:=.inl (.inl h)
theorem Inv.list (I:Inv X pins σ H s) (h:SqL X.K H a xs):∃ its:List Value,Vals xs its/\PlainL s.heap a its.toArray/\xs.length<=sizeLine:=by
 rcases h with h|⟨o,its,n,hk,hc,hd,hs,hz,r⟩
 ·obtain ⟨z,its,n,r,e⟩:=h.ok I.hok;exact ⟨its,r,⟨_,n,e,rfl,rfl,rfl⟩,z⟩
 ·refine ⟨its.toList,r,⟨o,n,I.kIn a o hk,hc,hd,by simpa using hs⟩,?_⟩
  have e:=r.length;simp only [Array.length_toList] at e;omega
theorem Inv.tuple (I:Inv X pins σ H s) (h:SqT X.K H a xs):∃ its:List Value,Vals xs its/\IsTup s.heap a its.toArray/\xs.length<=sizeLine:=by
 rcases h with h|⟨o,its,n,hk,hc,hs,hz,r⟩
 ·obtain ⟨z,its,r,p⟩:=h.ok I.hok;exact ⟨its,r,p,z⟩
 ·refine ⟨its.toList,r,⟨o,I.kIn a o hk,hc,n,by simpa using hs⟩,?_⟩
  have e:=r.length;simp only [Array.length_toList] at e;omega
theorem Inv.list_inj (I:Inv X pins σ H s) (h:SqL X.K H a xs) (h':SqL X.K H a ys):xs=ys:=by
 obtain ⟨its,r,⟨o,n,e,_,_,d⟩,_⟩:=I.list h;obtain ⟨its',r',⟨o',n',e',_,_,d'⟩,_⟩:=I.list h';rw [e] at e'; cases e'
 rw [d] at d';injection d' with d1 _
 have:its=its':=by simpa using congrArg Array.toList d1
 subst this;exact r.inj r'
theorem Inv.tuple_inj (I:Inv X pins σ H s) (h:SqT X.K H a xs) (h':SqT X.K H a ys):xs=ys:=by
 obtain ⟨its,r,⟨o,e,_,n,d⟩,_⟩:=I.tuple h;obtain ⟨its',r',⟨o',e',_,n',d'⟩,_⟩:=I.tuple h';rw [e] at e'; cases e'
 rw [d] at d';injection d' with d1 _
 have:its=its':=by simpa using congrArg Array.toList d1
 subst this;exact r.inj r'
end
noncomputable abbrev Cx.wish (X:Cx) (E:Value->Shared->Prop):Cx:={X with xe:=E}
noncomputable abbrev Cx.nox (X:Cx):Cx:=X.wish λ_ _=>False
theorem Cx.Ok.wish {X:Cx} (ok:X.Ok) (E:Value->Shared->Prop):(X.wish E).Ok:=
 ⟨ok.mod,ok.kind,ok.glob,ok.blt,ok.above,ok.inj,ok.has,ok.cab,ok.hd,ok.frames,ok.stk,ok.exf,ok.bs,ok.bsz,ok.noex,ok.exfs,ok.funs,ok.frf⟩
theorem Cx.Ok.unwish {X:Cx} {E:Value->Shared->Prop} (ok:(X.wish E).Ok):X.Ok:=
 ⟨ok.mod,ok.kind,ok.glob,ok.blt,ok.above,ok.inj,ok.has,ok.cab,ok.hd,ok.frames,ok.stk,ok.exf,ok.bs,ok.bsz,ok.noex,ok.exfs,ok.funs,ok.frf⟩
section
variable {X:Cx} {pins:List (Addr × Obj)} {σ:St} {H:Hp} {s:Shared} {E:Value->Shared->Prop}
theorem Inv.wish (I:Inv X pins σ H s) (E:Value->Shared->Prop):Inv (X.wish E) pins σ H s:=⟨I.ok.wish E,I.os,I.bare,I.base,I.loc,I.cell,I.free,I.freeC,I.pin,I.hok,I.len⟩
theorem Inv.unwish (I:Inv (X.wish E) pins σ H s):Inv X pins σ H s:=⟨I.ok.unwish,I.os,I.bare,I.base,I.loc,I.cell,I.free,I.freeC,I.pin,I.hok,I.len⟩
theorem SP.unwish {D:Ends} {f:Flow} {s':Shared} (h:SP (X.wish E) pins D f s'):SP X pins D f s':=by
 cases f with
 |next=>obtain ⟨σ',H',I,q⟩:=h; exact ⟨σ',H',I.unwish,q⟩
 |brk=>obtain ⟨σ',H',I,q⟩:=h; exact ⟨σ',H',I.unwish,q⟩
 |cont=>obtain ⟨σ',H',I,q⟩:=h; exact ⟨σ',H',I.unwish,q⟩
 |ret u=>obtain ⟨v,σ',H',I,r,q⟩:=h; exact ⟨v,σ',H',I.unwish,r,q⟩
theorem PSs.nox {st:List Stmt} {t:TS} (h:PSs X.nox st t):PSs X st t:=λpins s σ H D I hw=>
 wpAny_mono (h pins s σ H D (I.wish _) hw) (λ_ _ q=>q.unwish) λ_ _ z=>False.elim z
end
section
variable {X:Cx} {st:Stmt} {rest:List Stmt} {t u:TS} {e:Expr} {te:TE} {pos:Pos}
noncomputable def tNext:TS:=λD σ H=>D.nx σ H
noncomputable def tSeq (t u:TS):TS:=λD σ H=>t {D with nx:=u D} σ H
theorem zX:PSs X [] tNext:=λ_ _ σ H _ I h=>wpAny_execs_nil ⟨σ,H,I,h⟩
theorem zE (h1:PS X st t) (h2:PSs X rest u):PSs X (st::rest) (tSeq t u):=by
 intro pins s σ H D I h;refine wpAny_execs_cons (thn (h1 pins s σ H {D with nx:=u D} I h) λf s1 q=>?_)
 cases f with
 |next=>
  obtain ⟨σ',H',I',q⟩:=q;exact h2 pins s1 σ' H' D I' q
 |ret v=>exact q
 |brk=>exact q
 |cont=>exact q
theorem zF (h1:PS X st t):PSs X [st] t:=by
 intro pins s σ H D I h;refine wpAny_execs_cons (thn (h1 pins s σ H D I h) λf s1 q=>?_)
 cases f with
 |next=>exact wpAny_execs_nil q
 |ret v=>exact q
 |brk=>exact q
 |cont=>exact q
theorem Inv.quiet {pins:List (Addr × Obj)} {σ:St} {H:Hp} {s:Shared} (I:Inv X pins σ H s):interactive X.env=false:=by simp [interactive,I.ok.kind]
noncomputable def tDrop (te:TE):TS:=λD σ H=>te σ H λ_ H1=>D.nx σ H1
theorem yZ (he:PE X e te) (hs:swapsWith e none pos.line X.env=pure false:=by rfl):PS X (.Expr e pos) (tDrop te):=by
 intro pins s σ H D I h;exact wpAny_Expr_any (thn (he pins s σ H _ I h) λv s1 ⟨x,H1,I1,r1,q1⟩=>⟨σ,H1,I1,q1⟩) I.quiet hs
noncomputable def tRet (te:TE):TS:=λD σ H=>te σ H D.rt
theorem zL (he:PE X e te):PS X (.Return (some e) pos) (tRet te):=by
 intro pins s σ H D I h;exact wpAny_Return_some (thn (he pins s σ H _ I h) λv s1 ⟨x,H1,I1,r1,q1⟩=>⟨x,σ,H1,I1,r1,q1⟩)
noncomputable def tIfS (c:TT) (t u:TS):TS:=λD σ H=>c σ H λb H1=>if b=true then t D σ H1 else u D σ H1
theorem zf {c:Expr} {a b:List Stmt} {tc:TT} (hc:PT X c tc) (ha:PSs X a t) (hb:PSs X b u):PS X (.If c a b pos) (tIfS tc t u):=by
 intro pins s σ H D I h;refine wpAny_If (thn (hc pins s σ H _ I h) λd s1 zz=>?_)
 obtain ⟨H1,I1,q1⟩:=zz;cases d with
 |true=>exact ha pins s1 σ H1 D I1 q1
 |false=>exact hb pins s1 σ H1 D I1 q1
noncomputable def tNever:TS:=λ_ _ _=>False
theorem jO:PS X st tNever:=λ_ _ _ _ _ _ h=>h.elim
theorem pss_never {sts:List Stmt}:PSs X sts tNever:=λ_ _ _ _ _ _ h=>h.elim
end
noncomputable abbrev TG:=V->St->Hp->(St->Hp->Prop)->Prop
noncomputable abbrev TGs:=List V->St->Hp->(St->Hp->Prop)->Prop
noncomputable def PG (X:Cx) (target:Expr) (t:TG):Prop:=
 ∀ (pins:List (Addr × Obj)) (s:Shared) (σ:St) (H:Hp) (v:V) (u:Value) (Q:St->Hp->Prop),Inv X pins σ H s->RelV v u->t v σ H Q->
  wpAny (model X.prog X.w) X.A (assign target X.env u) (λ_ s'=>∃ σ' H',Inv X pins σ' H' s'/\Q σ' H') X.xe s
noncomputable def PGs (X:Cx) (ts:List Expr) (t:TGs):Prop:=
 ∀ (pins:List (Addr × Obj)) (s:Shared) (σ:St) (H:Hp) (vs:List V) (us:List Value) (Q:St->Hp->Prop),Inv X pins σ H s->Vals vs us->t vs σ H Q->
  wpAny (model X.prog X.w) X.A (assignInOrder ((assignEach ts X.env).map (·.2)) us) (λ_ s'=>∃ σ' H',Inv X pins σ' H' s'/\Q σ' H') X.xe s
noncomputable abbrev TSet:=V->V->V->Hp->(Hp->Prop)->Prop
noncomputable def PSet (X:Cx) (t:TSet):Prop:=
 ∀ (pins:List (Addr × Obj)) (s:Shared) (σ:St) (H:Hp) (o i v:V) (ov iv u:Value) (Q:Hp->Prop),Inv X pins σ H s->RelV o ov->RelV i iv->RelV v u->t o i v H Q->
  wpAny (model X.prog X.w) X.A (setItem ov iv u) (λ_ s'=>∃ H',Inv X pins σ H' s'/\Q H') X.xe s
section
variable {X:Cx} {pos:Pos}
noncomputable def gName (i:Nat):TG:=λv σ H Q=>Q (σ.set i (some v)) H
theorem zV {i:Nat} {x:Str} (hN:X.N.Nodup) (hi:X.N[i]?=some x) (hx:Loc X.env.scope x) (hf:X.fn x=true\/X.env.scope.names.lookup x=some .local:=by first|exact .inl rfl|exact .inr rfl|assumption):PG X (.Name x pos) (gName i):=by
 intro pins s σ H v u Q I r h;exact wpAny_assign_Name (Yo I hN hi hx r (λs' I'=>⟨_,H,I',h⟩) hf)
noncomputable def gNil:TGs:=λvs σ H Q=>vs=[]/\Q σ H
noncomputable def gCons (t:TG) (u:TGs):TGs:=λvs σ H Q=>∃ v r,vs=v::r/\t v σ H λσ' H'=>u r σ' H' Q
theorem YN:PGs X [] gNil:=by
 intro pins s σ H vs us Q I r h;obtain ⟨e,h⟩:=h;subst e;cases r
 exact assignInOrder_nil ⟨σ,H,I,h⟩
theorem ze {e:Expr} {es:List Expr} {t:TG} {u:TGs} (h1:PG X e t) (h2:PGs X es u)
  (hs:(assignEach (e::es) X.env).map (·.2)=assign e X.env::(assignEach es X.env).map (·.2):=by rfl):PGs X (e::es) (gCons t u):=by
 intro pins s σ H vs us Q I r h;obtain ⟨v,vr,e1,h⟩:=h;subst e1;cases r with
 |cons r rr=>
  rw [hs];refine assignInOrder_cons (thn (h1 pins s σ H _ _ _ I r h) λ_ s1 zz=>?_)
  obtain ⟨σ1,H1,I1,q1⟩:=zz;exact h2 pins s1 σ1 H1 _ _ Q I1 rr q1
noncomputable def gTup (K:Frag) (n:Nat) (t:TGs):TG:=λv σ H Q=>∃ a xs,v=.ref a/\SqT K H a xs/\xs.length=n/\t xs σ H Q
theorem pg_tup {es:List Expr} {k:Nat} {t:TGs} {n:Nat} (hc:X.calm=true) (h:PGs X es t)
  (hn:(assignEach es X.env).length=n:=by rfl) (hst:(assignEach es X.env).findIdx? (·.1)=none:=by rfl):PG X (.Tuple es k pos) (gTup X.K n t):=by
 intro pins s σ H v u Q I r hw;obtain ⟨a,xs,e1,hq,hl,hw⟩:=hw;subst e1;cases r
 obtain ⟨its,rv,ht,hz⟩:=I.tuple hq;refine assign_Tuple_tuple (I.ok.hd hc) ht (by simp [hn,<- hl,rv.length]) hst λh' hx=>?_
 have I1:Inv X pins σ H {s with heap:=h'}:=I.kept (t':=s.toks) λb o e=>hx b o (Nat.ne_of_lt (Heap.lt_size e)) e
 exact h pins _ σ H xs _ Q I1 (by simpa using rv) hw
noncomputable def gSub (to ti:TE) (t:TSet):TG:=λv σ H Q=>to σ H λo H1=>ti σ H1 λi H2=>t o i v H2 λH3=>Q σ H3
theorem J7 {o i:Expr} {to ti:TE} {t:TSet} (ho:PE X o to) (hi:PE X i ti) (hs:PSet X t)
  (ha:∀ v,assign (.Subscript o i pos) X.env v=(do
   let ov <- holding [v] (eval o X.env)
   let iv <- holding [v,ov] (eval i X.env)
   standAt pos
   holding [v,ov,iv] (setItem ov iv v)
   release [v,ov,iv] []):=by intro _; rfl):PG X (.Subscript o i pos) (gSub to ti t):=by
 intro pins s σ H v u Q I r h;rw [ha];refine wpAny_bind (wpAny_holding (thn (ho pins s σ H _ I h) λov s1 zz=>?_))
 obtain ⟨x,H1,I1,r1,q1⟩:=zz;refine wpAny_bind (wpAny_holding (thn (hi pins s1 σ H1 _ I1 q1) λiv s2 zz=>?_))
 obtain ⟨y,H2,I2,r2,q2⟩:=zz;refine wpAny_bind (wpAny_standAt (wpAny_bind (wpAny_holding (thn (hs pins s2 σ H2 x y v ov iv u _ I2 r1 r2 r q2) λ_ s3 zz=>?_))))
 obtain ⟨H3,I3,q3⟩:=zz;exact wpAny_release ⟨σ,H3,I3,q3⟩
noncomputable def tAsg (te:TE) (g:TG):TS:=λD σ H=>te σ H λx H1=>g x σ H1 D.nx
theorem YX {tg e:Expr} {te:TE} {g:TG} (he:PE X e te) (hg:PG X tg g) (hs:swapsWithSole [tg] e pos.line X.env=pure false:=by rfl) (hw:swappedStores [tg] e X.env=pure none:=by rfl)
  (h1:(assignEach [tg] X.env).map (·.2)=[assign tg X.env]:=by rfl):PS X (.Assign [tg] e pos) (tAsg te g):=by
 intro pins s σ H D I h;refine wpAny_Assign_stores (thn (he pins s σ H _ I h) λv s1 ⟨x,H1,I1,r1,q1⟩=>?_) hs hw
 rw [h1];exact thn (hg pins s1 σ H1 x v _ I1 r1 q1) λ_ s2 q=>q
theorem zM {i:Nat} {x:Str} {e:Expr} {te:TE} {pos':Pos} (hN:X.N.Nodup) (hi:X.N[i]?=some x) (hx:Loc X.env.scope x) (he:PE X e te) (hs:swapsWith e (some (.Name x pos')) pos.line X.env=pure false:=by rfl) (hf:X.fn x=true\/X.env.scope.names.lookup x=some .local:=by first|exact .inl rfl|exact .inr rfl|assumption) :
  PS X (.Assign [.Name x pos'] e pos) (tAsg te (gName i)):=by
 intro pins s σ H D I h;refine wpAny_Assign_Name (thn (he pins s σ H _ I h) λv s1 ⟨y,H1,I1,r1,q1⟩=>?_) hs
 exact Yo I1 hN hi hx r1 (λs2 I2=>⟨_,H1,I2,q1⟩) hf
noncomputable def tPar (i j:Nat) (ta:TA):TS:=λD σ H=>ta σ H λvs H1=>∃ v w,vs=[v,w]/\D.nx ((σ.set i (some v)).set j (some w)) H1
theorem ps_par {i j:Nat} {x y:Str} {a b:Expr} {ta:TA} {px py pt:Pos} {kt k2 oA} (hc:X.calm=true) (hN:X.N.Nodup) (hi:X.N[i]?=some x) (hj:X.N[j]?=some y) (hij:i≠j)
  (hx:X.env.scope.names.lookup x=some .local) (hy:X.env.scope.names.lookup y=some .local) (ha:PA X [a,b] ta)
  (hw:swappedStores [.Tuple [.Name x px,.Name y py] kt pt] (.Tuple [a,b] k2 oA) X.env=pure (some [x,y]))
  (hs:swapsWithSole [.Tuple [.Name x px,.Name y py] kt pt] (.Tuple [a,b] k2 oA) pos.line X.env=pure false:=by rfl) :
  PS X (.Assign [.Tuple [.Name x px,.Name y py] kt pt] (.Tuple [a,b] k2 oA) pos) (tPar i j ta):=by
 intro pins s σ H D I h;rw [exec_Assign_arm];refine wpAny_bind (wpAny_standAt ?_);rw [hs];refine wpAny_bind (wpAny_pure ?_);rw [if_neg (by decide)]
 refine wpAny_bind (Tuple_ (thn (ha _ pins s σ H _ I h) λus s1 zz=>?_))
 obtain ⟨vs,H1,I1,r1,q1⟩:=zz;obtain ⟨v,w,e1,q1⟩:=q1;subst e1;obtain ⟨u1,u2,rfl,rv,rw'⟩:∃ u1 u2,us=[u1,u2]/\RelV v u1/\RelV w u2:=by
  cases r1 with
  |cons p q=>
   cases q with
   |cons p' q'=>
    cases q'
    exact ⟨_,_,rfl,p,p'⟩
 refine wpAny_newObj_type ?_ (by show 2<=sizeLine; decide)
 have I2:Inv X pins σ H1 {s1 with heap:=s1.heap.push {cls:=.type "tuple",data:=.seq [u1,u2].toArray}}:=I1.kept (t':=s1.toks) λb o e=>Heap.get?_push_of_some _ e
 rw [hw];refine wpAny_bind (wpAny_pure ?_);show wpAny (model X.prog X.w) X.A (do rule "assign.swapped-stores"; let items <- unpackItems (.ref s1.heap.objs.size) 2 none; assignInOrder [λv=>bindName X.env y v,λv=>bindName X.env x v] items.reverse; pure Flow.next) _ _ _
 refine wpAny_bind (wpAny_rule (wpAny_bind (unpackItems_tuple (items:=#[u1,u2]) (I.ok.hd hc) (IsTup.new s1.heap _) λh' hx'=>?_)))
 have I3:=I2.kept (h':=h') (t':=s1.toks) λb o e=>hx' b o (Nat.ne_of_lt (Heap.lt_size e)) e
 show wpAny _ _ (assignInOrder [λv=>bindName X.env y v,λv=>bindName X.env x v] [u2,u1] >>= λ_=>pure Flow.next) _ _ _
 refine wpAny_bind (assignInOrder_cons (wpAny_bindName (Yo I3 hN hj (.inl hy) rw' (λs2 I4=>?_) (.inr hy))))
 refine assignInOrder_cons (wpAny_bindName (Yo I4 hN hi (.inl hx) rv (λs3 I5=>assignInOrder_nil (wpAny_pure ?_)) (.inr hx)))
 rw [List.set_comm _ _ (Ne.symm hij)] at I5;exact ⟨_,H1,I5,q1⟩
end
section
variable {X:Cx} {pos:Pos}
noncomputable def tWhile (c:TT) (tb:TS):TS:=λD σ H=>∃ W:Nat->St->Hp->Prop,(∃ m,W m σ H)/\∀ m σ H,W m σ H->
 c σ H λb H1=>if b=true then ∃ N:St->Hp->Prop,(∀ σ' H',N σ' H'->∃ m',m' < m/\W m' σ' H')/\tb {D with nx:=N,ct:=N,bk:=D.nx} σ H1 else D.nx σ H1
theorem Z2 {c:Expr} {body:List Stmt} {tc:TT} {tb:TS} (hp:PassesOwn (model X.prog X.w) X.A X.env X.xe) (hc:PT X c tc) (hb:PSs X body tb):PS X (.While c body [] pos) (tWhile tc tb):=by
 intro pins s σ H D I h;obtain ⟨W,⟨m0,w0⟩,turn⟩:=h;refine wpAny_While (codeAny_whileLoop (λn s'=>∃ σ' H',Inv X pins σ' H' s'/\W n σ' H') ?_ m0 ⟨σ,H,I,w0⟩)
 rintro n s1 ⟨σ1,H1,I1,w1⟩;refine wpAny_passesOwn hp (thn (hc pins s1 σ1 H1 _ I1 (turn n σ1 H1 w1)) λb s2 zz=>?_)
 obtain ⟨H2,I2,q2⟩:=zz;cases b with
 |true=>
  obtain ⟨N,hN,q2⟩:=q2;rw [if_pos rfl];refine wpAny_passesOwn hp (thn (hb pins s2 σ1 H2 _ I2 q2) λf s3 q3=>?_)
  cases f with
  |next=>
   obtain ⟨σ3,H3,I3,n3⟩:=q3;obtain ⟨m',hm,w3⟩:=hN σ3 H3 n3;exact ⟨m',hm,σ3,H3,I3,w3⟩
  |cont=>
   obtain ⟨σ3,H3,I3,n3⟩:=q3;obtain ⟨m',hm,w3⟩:=hN σ3 H3 n3;exact ⟨m',hm,σ3,H3,I3,w3⟩
  |brk=>exact q3
  |ret v=>exact q3
 |false=>
  rw [if_neg Bool.false_ne_true];exact wpAny_execs_nil ⟨σ1,H2,I2,q2⟩
end
structure It where
 go:Nat->Hp->Prop
 yld:Nat->Hp->V->Hp->Prop
 stop:Nat->Hp->Prop
noncomputable def FpOk (X:Cx) (pins:List (Addr × Obj)) (H:Hp) (b:Addr):Prop:=
 H b=none/\b≠X.env.locals/\b∉X.fs/\(b∈X.ex\/X.s₀.heap.objs.size<=b)/\(∀ x c,X.env.cells.lookup x=some c->c≠b)/\∀ p∈X.pn++pins,p.1≠b
theorem Inv.fpOk {X:Cx} {pins:List (Addr × Obj)} {σ:St} {H H':Hp} {s:Shared} {b:Addr} (I:Inv X pins σ H s) (hb:s.heap.objs.size<=b) (hn:H' b=none):FpOk X pins H' b:=by
 refine ⟨hn,Nat.ne_of_gt (Nat.lt_of_lt_of_le I.lt hb),I.nofs hb,.inr (Nat.le_trans I.sz hb),λx c e z=>?_,λp hp z=>?_⟩
 ·obtain ⟨v,q⟩:=I.cell x c e;exact absurd (Nat.lt_of_lt_of_le q.lt (by rw [z]; exact hb)) (Nat.lt_irrefl _)
 ·exact absurd (Nat.lt_of_lt_of_le (Heap.lt_size (I.pin p hp).1) (by rw [z]; exact hb)) (Nat.lt_irrefl _)
structure Turn (P:Program) (w:World) (K:Frag) (tg:Expr) (J:It) (fp:List Addr) (it:Addr) (tn:Nat->Heap->Prop):Prop where
 mem:it∈fp
 obj:∀ i h,tn i h->∀ b∈fp,∃ o,h.get? b=some o/\∀ v,o.data≠.cell v
 keep:∀ i h h',tn i h->(∀ b∈fp,∀ o,h.get? b=some o->h'.get? b=some o)->tn i h'
 item:∀ (X:Cx),X.prog=P->X.w=w->X.K=K->X.calm=true->∀ (i:Nat) (pins:List (Addr × Obj)) (s:Shared) (σ:St) (H:Hp) (E:Value->Shared->Prop),Inv X pins σ H s->(∀ b∈fp,FpOk X pins H b)->tn i s.heap->J.go i H->
  wpAny (model P w) X.A (pyNext (.ref it)) (λr s1=>∃ u,r=some u/\
   wpAny (model P w) X.A (letOwnedTupleGo tg (.ref it) u) (λ_ s2=>∃ x H',Inv X pins σ H' s2/\RelV x u/\J.yld i H x H'/\tn (i+1) s2.heap/\∀ b∈fp,H' b=none) E s1) E s
 done:∀ (X:Cx),X.prog=P->X.w=w->X.K=K->X.calm=true->∀ (i:Nat) (pins:List (Addr × Obj)) (s:Shared) (σ:St) (H:Hp) (E:Value->Shared->Prop),Inv X pins σ H s->(∀ b∈fp,FpOk X pins H b)->tn i s.heap->J.stop i H->
  wpAny (model P w) X.A (pyNext (.ref it)) (λr s1=>r=none/\Inv X pins σ H s1) E s
 self:∀ (A:Around) (i:Nat) (s:Shared) (Q:Value->Shared->Prop) (E:Value->Shared->Prop),tn i s.heap->Q (.ref it) s->wpAny (model P w) A (pyIter (.ref it)) Q E s
noncomputable abbrev TI:=St->Hp->(It->Hp->Prop)->Prop
noncomputable def PIE (X:Cx) (pins:List (Addr × Obj)) (σ:St) (tg:Expr) (R:It->Hp->Prop) (itv:Value) (s2:Shared):Prop:=
 ∃ (it:Addr) (fp:List Addr) (tn:Nat->Heap->Prop) (J:It) (H':Hp),itv=.ref it/\Inv X pins σ H' s2/\Turn X.prog X.w X.K tg J fp it tn/\tn 0 s2.heap/\(∀ b∈fp,FpOk X pins H' b)/\R J H'
noncomputable def PI (X:Cx) (tg iter:Expr) (wi:TI):Prop:=
 ∀ (pins:List (Addr × Obj)) (s:Shared) (σ:St) (H:Hp) (R:It->Hp->Prop),Inv X pins σ H s->wi σ H R->
  wpAny (model X.prog X.w) X.A (eval iter X.env) (λv s1=>wpAny (model X.prog X.w) X.A (pyIter v) (PIE X pins σ tg R) X.xe s1) X.xe s
theorem go_of {M:Model} {A:Around} {E:Value->Shared->Prop} {s:Shared} {tg:Expr} {it:Addr} {u:Value} {o:Obj} {n:String} {vs:Array Value} {Q:Unit->Shared->Prop} (ho:s.heap.get? it=some o) (hc:o.cls=.type n) (hd:o.data=.fields vs)
  (hn:["enumerate","zip","dict_itemiterator","dict_reverseitemiterator","odict_iterator","itertools.zip_longest","itertools.pairwise"].contains n=false) (hQ:Q () s):wpAny M A (letOwnedTupleGo tg (.ref it) u) Q E s:=by
 unfold letOwnedTupleGo;cases tg<;>first
  |exact wpAny_pure hQ
  | (cases u<;>first
    |exact wpAny_pure hQ
    | (refine wpAny_bind (wpAny_load ho ?_)
       rw [hc,hd];show wpAny M A (if (["enumerate","zip","dict_itemiterator","dict_reverseitemiterator","odict_iterator","itertools.zip_longest","itertools.pairwise"].contains n && vs[0]? == some (rawInt _))=true then _ else _) Q E s
       rw [if_neg (by intro h; rw [hn,Bool.false_and] at h; cases h)]
       exact wpAny_pure hQ))
noncomputable def Itl (K:Frag) (a:Addr):It:=
 ⟨λi H=>∃ xs x,SqL K H a xs/\xs[i]?=some x,λi H x H'=>H'=H/\∀ xs,SqL K H a xs->xs[i]?=some x,λi H=>∃ xs,SqL K H a xs/\xs.length<=i⟩
noncomputable def Itt (K:Frag) (a:Addr):It:=
 ⟨λi H=>∃ xs x,SqT K H a xs/\xs[i]?=some x,λi H x H'=>H'=H/\∀ xs,SqT K H a xs->xs[i]?=some x,λi H=>∃ xs,SqT K H a xs/\xs.length<=i⟩
noncomputable def Itr (lo:Int) (n:Nat):It:=⟨λi _=>i < n,λi H x H'=>H'=H/\x=.int (lo+i),λi _=>n<=i⟩
theorem turn_list {P:Program} {w:World} {K:Frag} {tg:Expr} (a it:Addr):Turn P w K tg (Itl K a) [it] it (λi h=>h.IsListIter it a i) where
 mem:=by simp
 obj:=λi h st b hb=>by
  have e:b=it:=by simpa using hb
  subst e;obtain ⟨o,e,c,d⟩:=st;exact ⟨o,e,λv z=>by rw [d] at z; cases z⟩
 keep:=λi h h' st k=>st.at λo e=>k it (by simp) o e
 item:=by
  intro X hP hw hK hc i pins s σ H E I hf st hg;subst hP hw hK;obtain ⟨xs,x,hq,hx⟩:=hg;obtain ⟨its,rv,p,hz⟩:=I.list hq;obtain ⟨u,hu,ru⟩:=rv.get hx;obtain ⟨f0,f1,f2,f3,f4,f5⟩:=hf it (by simp)
  refine wpAny_pyNext_list_item st p.isList (x:=u) (by simpa using hu) λh' st' sb=>?_
  have I1:Inv X pins σ H {s with heap:=h'}:=I.turned (t':=s.toks) (λb o hb e=>(sb.2 b hb).trans e) f0 f1 f3 f4 f5
  obtain ⟨o,e,c,d⟩:=id st';exact ⟨u,rfl,go_of (s:={s with heap:=h'}) e c d (by decide) ⟨x,H,I1,ru,⟨rfl,λys hy=>by rw [I.list_inj hy hq]; exact hx⟩,st',λb hb=>(hf b hb).1⟩⟩
 done:=by
  intro X hP hw hK hc i pins s σ H E I hf st hg;subst hP hw hK;obtain ⟨xs,hq,hx⟩:=hg;obtain ⟨its,rv,p,hz⟩:=I.list hq;obtain ⟨f0,f1,f2,f3,f4,f5⟩:=hf it (by simp)
  have hl:=rv.length;exact wpAny_pyNext_list_end (I.ok.hd hc) st p.isList (by simp; omega) λh' eb=>⟨rfl,I.turned (t':=s.toks) (λb o hb e=>eb b o hb e) f0 f1 f3 f4 f5⟩
 self:=λ_ _ _ _ _ st h=>wpAny_pyIter_listiter st h
theorem turn_tuple {P:Program} {w:World} {K:Frag} {tg:Expr} (a it:Addr):Turn P w K tg (Itt K a) [it] it (λi h=>h.IsTupleIter it a i) where
 mem:=by simp
 obj:=λi h st b hb=>by
  have e:b=it:=by simpa using hb
  subst e;obtain ⟨o,e,c,d⟩:=st;exact ⟨o,e,λv z=>by rw [d] at z; cases z⟩
 keep:=λi h h' st k=>st.at λo e=>k it (by simp) o e
 item:=by
  intro X hP hw hK hc i pins s σ H E I hf st hg;subst hP hw hK;obtain ⟨xs,x,hq,hx⟩:=hg;obtain ⟨its,rv,p,hz⟩:=I.tuple hq;obtain ⟨u,hu,ru⟩:=rv.get hx;obtain ⟨f0,f1,f2,f3,f4,f5⟩:=hf it (by simp)
  refine wpAny_pyNext_tuple_item st (show s.heap.IsTuple a its.toArray from p) (x:=u) (by simpa using hu) λh' st' sb=>?_
  have I1:Inv X pins σ H {s with heap:=h'}:=I.turned (t':=s.toks) (λb o hb e=>(sb.2 b hb).trans e) f0 f1 f3 f4 f5
  obtain ⟨o,e,c,d⟩:=id st';exact ⟨u,rfl,go_of (s:={s with heap:=h'}) e c d (by decide) ⟨x,H,I1,ru,⟨rfl,λys hy=>by rw [I.tuple_inj hy hq]; exact hx⟩,st',λb hb=>(hf b hb).1⟩⟩
 done:=by
  intro X hP hw hK hc i pins s σ H E I hf st hg;subst hP hw hK;obtain ⟨xs,hq,hx⟩:=hg;obtain ⟨its,rv,p,hz⟩:=I.tuple hq;obtain ⟨f0,f1,f2,f3,f4,f5⟩:=hf it (by simp)
  have hl:=rv.length;exact wpAny_pyNext_tuple_end (I.ok.hd hc) st (show s.heap.IsTuple a its.toArray from p) (by simp; omega) λh' eb=>⟨rfl,I.turned (t':=s.toks) (λb o hb e=>eb b o hb e) f0 f1 f3 f4 f5⟩
 self:=λ_ _ _ _ _ st h=>wpAny_pyIter_tupleiter st h
theorem turn_range {P:Program} {w:World} {K:Frag} {tg:Expr} (it:Addr) (lo:Int) (n:Nat):Turn P w K tg (Itr lo n) [it] it (λi h=>IsRangeIter h it (lo+(i:Nat) * 1) ((n:Int) - (i:Nat)) 1) where
 mem:=by simp
 obj:=λi h st b hb=>by
  have e:b=it:=by simpa using hb
  subst e
  exact ⟨_,st,λv z=>by
   have z':Data.fields _=Data.cell v:=z
   cases z'⟩
 keep:=λi h h' st k=>k it (by simp) _ st
 item:=by
  intro X hP hw hK hc i pins s σ H E I hf st hg;subst hP hw hK;obtain ⟨f0,f1,f2,f3,f4,f5⟩:=hf it (by simp)
  have W:=Walks.range (prog:=X.prog) (w:=X.w) (I.ok.hd hc) it lo 1 n;refine W.item i s _ _ hg st λv h' tk hv st' kk=>?_
  obtain ⟨t,rfl⟩:=hv;have I1:Inv X pins σ H {s with heap:=h',toks:=tk}:=I.turned (λb o hb e=>kk b o (by simpa using hb) e) f0 f1 f3 f4 f5
  refine ⟨_,rfl,go_of (s:={s with heap:=h',toks:=tk}) (n:="range_iterator") st' rfl rfl (by decide) ⟨.int (lo+i),H,I1,⟨t,?_⟩,⟨rfl,rfl⟩,st',λb hb=>(hf b hb).1⟩⟩
  rw [Int.mul_one]
 done:=by
  intro X hP hw hK hc i pins s σ H E I hf st hg;subst hP hw hK;obtain ⟨f0,f1,f2,f3,f4,f5⟩:=hf it (by simp)
  exact wpAny_pyNext_range_end (I.ok.hd hc) st (by have:n<=i:=hg; omega) λh' eb=>⟨rfl,I.turned (t':=s.toks) (λb o hb e=>eb b o hb e) f0 f1 f3 f4 f5⟩
 self:=λ_ _ _ _ _ st h=>wpAny_pyIter_rangeiter st h
end L2
namespace L2
open PySem PySem.Spec PyProof.Rows
section
variable {X:Cx} {tg:Expr}
noncomputable def iList (K:Frag) (tl:TE):TI:=λσ H R=>tl σ H λx H1=>∃ a,x=.ref a/\(∃ xs,SqL K H1 a xs)/\R (Itl K a) H1
noncomputable def iTup (K:Frag) (tl:TE):TI:=λσ H R=>tl σ H λx H1=>∃ a,x=.ref a/\(∃ xs,SqT K H1 a xs)/\R (Itt K a) H1
theorem zo {l:Expr} {tl:TE} (hl:PE X l tl):PI X tg l (iList X.K tl):=by
 intro pins s σ H R I h;refine thn (hl pins s σ H _ I h) λv s1 zz=>?_
 obtain ⟨x,H1,I1,r1,q1⟩:=zz;obtain ⟨a,e,⟨xs,hq⟩,q⟩:=q1;subst e;cases r1
 obtain ⟨its,rv,p,hz⟩:=I1.list hq;refine wpAny_pyIter_list p.isList ?_;refine ⟨s1.heap.objs.size,[s1.heap.objs.size],_,_,H1,rfl,I1.kept (t':=s1.toks) λb o e=>Heap.get?_push_of_some _ e,turn_list a _,⟨_,Heap.get?_push_size _ rfl,rfl,rfl⟩,λb hb=>?_,q⟩
 have e:b=s1.heap.objs.size:=by simpa using hb
 subst e;exact I1.fpOk (Nat.le_refl _) (I1.hok.fresh (Nat.le_refl _))
theorem pi_tup {l:Expr} {tl:TE} (hl:PE X l tl):PI X tg l (iTup X.K tl):=by
 intro pins s σ H R I h;refine thn (hl pins s σ H _ I h) λv s1 zz=>?_
 obtain ⟨x,H1,I1,r1,q1⟩:=zz;obtain ⟨a,e,⟨xs,hq⟩,q⟩:=q1;subst e;cases r1
 obtain ⟨its,rv,p,hz⟩:=I1.tuple hq;refine wpAny_pyIter_tuple (show s1.heap.IsTuple a its.toArray from p) ?_;refine ⟨s1.heap.objs.size,[s1.heap.objs.size],_,_,H1,rfl,I1.kept (t':=s1.toks) λb o e=>Heap.get?_push_of_some _ e,turn_tuple a _,⟨_,Heap.get?_push_size _ rfl,rfl,rfl⟩,λb hb=>?_,q⟩
 have e:b=s1.heap.objs.size:=by simpa using hb
 subst e;exact I1.fpOk (Nat.le_refl _) (I1.hok.fresh (Nat.le_refl _))
theorem range_it {pins:List (Addr × Obj)} {σ:St} {H:Hp} {s:Shared} {R:It->Hp->Prop} {E:Value->Shared->Prop} {lo hi:Int} {t u v:Tok} {tk:Nat} (I:Inv X pins σ H s) (h1:-(2 ^ 62)<=lo) (h2:lo < 2 ^ 62) (h3:-(2 ^ 62)<=hi) (h4:hi < 2 ^ 62)
  (q:R (Itr lo (hi - lo).toNat) H):wpAny (model X.prog X.w) X.A (pyIter (.ref s.heap.objs.size)) (PIE X pins σ tg R) E {s with heap:=s.heap.push {cls:=.type "range",data:=.fields #[.int lo t,.int hi u,.int 1 v]},toks:=tk}:=by
 refine wpAny_pyIter_range (IsRange.new ..) (small_one h1 h2 h3 h4) ?_;have I1:Inv X pins σ H {s with heap:=s.heap.push {cls:=.type "range",data:=.fields #[.int lo t,.int hi u,.int 1 v]},toks:=tk}:=I.kept λb o e=>Heap.get?_push_of_some _ e
 refine ⟨(s.heap.push {cls:=.type "range",data:=.fields #[.int lo t,.int hi u,.int 1 v]}).objs.size,[(s.heap.push {cls:=.type "range",data:=.fields #[.int lo t,.int hi u,.int 1 v]}).objs.size],_,_,H,rfl,
  I1.kept (t':=tk) λb o e=>Heap.get?_push_of_some _ e,turn_range _ lo (hi - lo).toNat,?_,λb hb=>?_,q⟩
 ·have e1:lo+((0:Nat):Int) * 1=lo:=by simp
  have e2:(((hi - lo).toNat:Nat):Int) - ((0:Nat):Int)=Builtin.Range.rangeSize lo hi 1:=by rw [rangeSize_one]; split<;>omega
  show IsRangeIter _ _ (lo+((0:Nat):Int) * 1) ((((hi - lo).toNat:Nat):Int) - ((0:Nat):Int)) 1;rw [e1,e2];exact Heap.get?_push_size _ rfl
 ·have e:b=(s.heap.push {cls:=.type "range",data:=.fields #[.int lo t,.int hi u,.int 1 v]}).objs.size:=by simpa using hb
  subst e;exact I1.fpOk (Nat.le_refl _) (I1.hok.fresh (Nat.le_refl _))
noncomputable def iRng1 (ta:TA):TI:=λσ H R=>ta σ H λvs H1=>∃ j:Int,vs=[.int j]/\-(2 ^ 62)<=j/\j < 2 ^ 62/\R (Itr 0 j.toNat) H1
noncomputable def iRng2 (ta:TA):TI:=λσ H R=>ta σ H λvs H1=>∃ i j:Int,vs=[.int i,.int j]/\(-(2 ^ 62)<=i/\i < 2 ^ 62/\-(2 ^ 62)<=j/\j < 2 ^ 62)/\R (Itr i (j - i).toNat) H1
theorem jF {a:Expr} {ta:TA} {p pos:Pos} (hg:Gl X "range") (hm:X.mg "range"=none) (ha:PA X [a] ta) (hs:starEach [a] X.env=[(false,eval a X.env)]:=by rfl):PI X tg (.Call (.Name "range" p) [a] [] pos) (iRng1 ta):=by
 intro pins s σ H R I h;refine Call_ (Ya I hg hm boot_range (PyProof.Rows.callWith_type1 (thn (ha pos pins s σ H _ I h) λus s1 ⟨vs,H1,I1,r1,q1⟩=>?_) hs rfl))
 obtain ⟨j,e,q1,q2,q⟩:=q1;subst e;cases r1 with
 |cons r rr=>
  cases rr
  obtain ⟨t,rfl⟩:=r;exact call_range_1 (range_it I1 (by omega) (by omega) q1 q2 (by simpa using q))
theorem pi_range2 {a b:Expr} {ta:TA} {p pos:Pos} (hg:Gl X "range") (hm:X.mg "range"=none) (ha:PA X [a,b] ta) (hs:starEach [a,b] X.env=[(false,eval a X.env),(false,eval b X.env)]:=by rfl) (fP:starEach [b] X.env=[(false,eval b X.env)]:=by rfl) :
  PI X tg (.Call (.Name "range" p) [a,b] [] pos) (iRng2 ta):=by
 intro pins s σ H R I h;refine Call_ (Ya I hg hm boot_range (PyProof.Rows.callWith_type1 (thn (ha pos pins s σ H _ I h) λus s1 ⟨vs,H1,I1,r1,q1⟩=>?_) (by rw [hs,fP]) (by rw [fP]; rfl)))
 obtain ⟨i,j,e,⟨q1,q2,q3,q4⟩,q⟩:=q1;subst e;cases r1 with
 |cons r rr=>
  cases rr with
  |cons r' rr=>
   cases rr
   obtain ⟨t,rfl⟩:=r;obtain ⟨t',rfl⟩:=r';exact call_range_2 (range_it I1 q1 q2 q3 q4 q)
noncomputable def tFor (wi:TI) (g:TG) (tb:TS):TS:=λD σ H=>wi σ H λJ H1=>∃ W:Nat->Nat->St->Hp->Prop,(∃ m,W 0 m σ H1)/\∀ i m σ H,W i m σ H->
 (J.stop i H/\D.nx σ H)\/(J.go i H/\∃ N:St->Hp->Prop,(∀ σ' H',N σ' H'->∃ m',m' < m/\W (i+1) m' σ' H')/\∀ x H',J.yld i H x H'->g x σ H' λσ2 H2=>tb {D with nx:=N,ct:=N,bk:=D.nx} σ2 H2)
noncomputable def pinsAt (fp:List Addr) (h:Heap):List (Addr × Obj):=fp.filterMap λb=>(h.get? b).map λo=>(b,o)
theorem jD {fp:List Addr} {h:Heap} {b:Addr} {o:Obj} (hb:b∈fp) (e:h.get? b=some o):(b,o)∈pinsAt fp h:=List.mem_filterMap.mpr ⟨b,hb,by rw [e]; rfl⟩
theorem of_pinsAt {fp:List Addr} {h:Heap} {p:Addr × Obj} (hp:p∈pinsAt fp h):p.1∈fp/\h.get? p.1=some p.2:=by
 obtain ⟨b,hb,e⟩:=List.mem_filterMap.mp hp;cases q:h.get? b with
 |none=>rw [q] at e; cases e
 |some o=>
  rw [q] at e;have e':(b,o)=p:=Option.some.inj e;subst e';exact ⟨hb,q⟩
theorem Inv.pinned {pins:List (Addr × Obj)} {σ:St} {H:Hp} {s:Shared} {fp:List Addr} (I:Inv X pins σ H s) (hf:∀ b∈fp,FpOk X pins H b) (ho:∀ b∈fp,∃ o,s.heap.get? b=some o/\∀ v,o.data≠.cell v):Inv X (pins++pinsAt fp s.heap) σ H s:=
 I.pins_of λp hp=>(List.mem_append.mp hp).elim (λz=>I.pin p (List.mem_append_right _ z)) λz=>by
  obtain ⟨hb,e⟩:=of_pinsAt z;obtain ⟨f0,f1,f2,_⟩:=hf p.1 hb;obtain ⟨o,e',d⟩:=ho p.1 hb;rw [e] at e'; cases e'
  exact ⟨e,f0,f1,f2,d⟩
theorem Inv.unpinned {pins pl:List (Addr × Obj)} {σ:St} {H:Hp} {s:Shared} (I:Inv X (pins++pl) σ H s):Inv X pins σ H s:=I.pins_of λp hp=>I.pin p (List.mem_append_right _ (List.mem_append_left _ hp))
theorem yH {iter:Expr} {body:List Stmt} {wi:TI} {g:TG} {tb:TS} {pos:Pos} (hp:PassesOwn (model X.prog X.w) X.A X.env X.xe) (hc:X.calm=true) (hi:PI X tg iter wi) (hg:PG X tg g) (hb:PSs X body tb)
  (hs:∀ x,foldedSetIterable iter X.env x=pure x:=by intro _; rfl):PS X (.For tg iter body [] pos) (tFor wi g tb):=by
 intro pins s σ H D I h;refine wpAny_For (thn (hi pins s σ H _ I h) λv s1 h1=>thn h1 λitv s2 h2=>?_) hs
 obtain ⟨it,fp,tn,J,H2,e,I2,T,eX,f2,W,⟨m0,w0⟩,turn⟩:=h2;subst e;have stat:∀ {H':Hp},(∀ b∈fp,H' b=none)->∀ b∈fp,FpOk X pins H' b:=λhn b hb=>⟨hn b hb,(f2 b hb).2⟩
 refine codeAny_forLoop_any (λn s'=>∃ i σ' H',Inv X pins σ' H' s'/\tn i s'.heap/\(∀ b∈fp,H' b=none)/\W i n σ' H') ?_ m0 ⟨0,σ,H2,I2,eX,λb hb=>(f2 b hb).1,w0⟩
 rintro n s3 ⟨i,σ3,H3,I3,EJ,EK,w3⟩;rcases turn i n σ3 H3 w3 with ⟨stop,qn⟩|⟨go,N,hN,step⟩
 ·refine wpAny_passesOwn hp (thn (T.done X rfl rfl rfl hc i pins s3 σ3 H3 X.xe I3 (stat EK) EJ stop) λr s4 zz=>?_)
  obtain ⟨hr,I4⟩:=zz;subst hr;exact wpAny_execs_nil ⟨σ3,H3,I4,qn⟩
 ·refine wpAny_passesOwn hp (thn (T.item X rfl rfl rfl hc i pins s3 σ3 H3 X.xe I3 (stat EK) EJ go) λr s4 zz=>?_)
  obtain ⟨u,hr,h4⟩:=zz;subst hr;refine wpAny_passesOwn hp (thn h4 λ_ s5 zz=>?_)
  obtain ⟨x,H5,I5,r5,y5,oB,Hg⟩:=zz;have Hh:=I5.pinned (stat Hg) (T.obj _ _ oB);refine wpAny_passesOwn hp (thn (hg _ s5 σ3 H5 x u _ Hh r5 (step x H5 y5)) λ_ s6 zz=>?_)
  obtain ⟨σ6,H6,I6,q6⟩:=zz;refine wpAny_passesOwn hp (thn (hb _ s6 σ6 H6 _ I6 q6) λf s7 q7=>?_)
  have again:∀ {σ7:St} {H7:Hp},Inv X (pins++pinsAt fp s5.heap) σ7 H7 s7->N σ7 H7->∃ m,m < n/\∃ i σ' H',Inv X pins σ' H' s7/\tn i s7.heap/\(∀ b∈fp,H' b=none)/\W i m σ' H':=λ{σ7 H7} I7 n7=>by
   obtain ⟨m',hm,w7⟩:=hN σ7 H7 n7;refine ⟨m',hm,i+1,σ7,H7,I7.unpinned,T.keep _ _ _ oB λb hb o e=>(I7.pin (b,o) (List.mem_append_right _ (List.mem_append_right _ (jD hb e)))).1,λb hb=>?_,w7⟩
   obtain ⟨o,e,d⟩:=T.obj _ _ oB b hb;exact (I7.pin (b,o) (List.mem_append_right _ (List.mem_append_right _ (jD hb e)))).2.1
  cases f with
  |next=>obtain ⟨σ7,H7,I7,n7⟩:=q7; exact again I7 n7
  |cont=>obtain ⟨σ7,H7,I7,n7⟩:=q7; exact again I7 n7
  |brk=>obtain ⟨σ7,H7,I7,q7⟩:=q7; exact ⟨σ7,H7,I7.unpinned,q7⟩
  |ret v=>obtain ⟨x7,σ7,H7,I7,r7,q7⟩:=q7; exact ⟨x7,σ7,H7,I7.unpinned,r7,q7⟩
end
theorem ZO {K:Frag} {a:Addr} {xs:List V} {g:TG} {tb:TS} {D:Ends} {σ:St} {H:Hp} (Pv:Nat->St->Hp->Prop) (h0:Pv 0 σ H) (hl:∀ i σ H,i<=xs.length->Pv i σ H->SqL K H a xs)
  (hs:∀ i x σ H,xs[i]?=some x->Pv i σ H->g x σ H λσ2 H2=>tb {D with nx:=Pv (i+1),ct:=Pv (i+1),bk:=D.nx} σ2 H2) (hd:∀ σ H,Pv xs.length σ H->D.nx σ H) :
  ∃ W:Nat->Nat->St->Hp->Prop,(∃ m,W 0 m σ H)/\∀ i m σ H,W i m σ H->
   ((Itl K a).stop i H/\D.nx σ H)\/((Itl K a).go i H/\∃ N:St->Hp->Prop,(∀ σ' H',N σ' H'->∃ m',m' < m/\W (i+1) m' σ' H')/\∀ x H',(Itl K a).yld i H x H'->g x σ H' λσ2 H2=>tb {D with nx:=N,ct:=N,bk:=D.nx} σ2 H2):=by
 refine ⟨λi m σ H=>m=xs.length - i/\i<=xs.length/\Pv i σ H,⟨xs.length,by simp,Nat.zero_le _,h0⟩,?_⟩
 rintro i m σ H ⟨rfl,hi,p⟩;have q:=hl i σ H hi p;by_cases hlt:i < xs.length
 ·refine .inr ⟨⟨xs,xs[i],q,by simp [hlt]⟩,Pv (i+1),λσ' H' p'=>⟨xs.length - (i+1),by omega,rfl,hlt,p'⟩,λx H' y=>?_⟩
  obtain ⟨e,y⟩:=y;subst e;exact hs i x σ _ (y xs q) p
 ·have e:i=xs.length:=by omega
  subst e;exact .inl ⟨⟨xs,q,Nat.le_refl _⟩,hd σ H p⟩
theorem for_tup {K:Frag} {a:Addr} {xs:List V} {g:TG} {tb:TS} {D:Ends} {σ:St} {H:Hp} (Pv:Nat->St->Hp->Prop) (h0:Pv 0 σ H) (hl:∀ i σ H,i<=xs.length->Pv i σ H->SqT K H a xs)
  (hs:∀ i x σ H,xs[i]?=some x->Pv i σ H->g x σ H λσ2 H2=>tb {D with nx:=Pv (i+1),ct:=Pv (i+1),bk:=D.nx} σ2 H2) (hd:∀ σ H,Pv xs.length σ H->D.nx σ H) :
  ∃ W:Nat->Nat->St->Hp->Prop,(∃ m,W 0 m σ H)/\∀ i m σ H,W i m σ H->
   ((Itt K a).stop i H/\D.nx σ H)\/((Itt K a).go i H/\∃ N:St->Hp->Prop,(∀ σ' H',N σ' H'->∃ m',m' < m/\W (i+1) m' σ' H')/\∀ x H',(Itt K a).yld i H x H'->g x σ H' λσ2 H2=>tb {D with nx:=N,ct:=N,bk:=D.nx} σ2 H2):=by
 refine ⟨λi m σ H=>m=xs.length - i/\i<=xs.length/\Pv i σ H,⟨xs.length,by simp,Nat.zero_le _,h0⟩,?_⟩
 rintro i m σ H ⟨rfl,hi,p⟩;have q:=hl i σ H hi p;by_cases hlt:i < xs.length
 ·refine .inr ⟨⟨xs,xs[i],q,by simp [hlt]⟩,Pv (i+1),λσ' H' p'=>⟨xs.length - (i+1),by omega,rfl,hlt,p'⟩,λx H' y=>?_⟩
  obtain ⟨e,y⟩:=y;subst e;exact hs i x σ _ (y xs q) p
 ·have e:i=xs.length:=by omega
  subst e;exact .inl ⟨⟨xs,q,Nat.le_refl _⟩,hd σ H p⟩
theorem yX {lo:Int} {n:Nat} {g:TG} {tb:TS} {D:Ends} {σ:St} {H:Hp} (Pv:Nat->St->Hp->Prop) (h0:Pv 0 σ H)
  (hs:∀ i σ H,i < n->Pv i σ H->g (.int (lo+i)) σ H λσ2 H2=>tb {D with nx:=Pv (i+1),ct:=Pv (i+1),bk:=D.nx} σ2 H2) (hd:∀ σ H,Pv n σ H->D.nx σ H) :
  ∃ W:Nat->Nat->St->Hp->Prop,(∃ m,W 0 m σ H)/\∀ i m σ H,W i m σ H->
   ((Itr lo n).stop i H/\D.nx σ H)\/((Itr lo n).go i H/\∃ N:St->Hp->Prop,(∀ σ' H',N σ' H'->∃ m',m' < m/\W (i+1) m' σ' H')/\∀ x H',(Itr lo n).yld i H x H'->g x σ H' λσ2 H2=>tb {D with nx:=N,ct:=N,bk:=D.nx} σ2 H2):=by
 refine ⟨λi m σ H=>m=n - i/\i<=n/\Pv i σ H,⟨n,by simp,Nat.zero_le _,h0⟩,?_⟩
 rintro i m σ H ⟨rfl,hi,p⟩;by_cases hlt:i < n
 ·refine .inr ⟨hlt,Pv (i+1),λσ' H' p'=>⟨n - (i+1),by omega,rfl,hlt,p'⟩,λx H' y=>?_⟩
  obtain ⟨e,y⟩:=y;subst e y;exact hs i σ _ hlt p
 ·have e:i=n:=by omega
  subst e;exact .inl ⟨Nat.le_refl _,hd σ H p⟩
end L2
namespace L2
open PySem PySem.Spec PyProof.Rows
noncomputable abbrev R2:=V->V->Hp->VK->Prop
noncomputable def OpR (X:Cx) (f:Value->Value->Sem Value) (r:R2):Prop:=
 ∀ (pins:List (Addr × Obj)) (s:Shared) (σ:St) (H:Hp) (x y:V) (v u:Value) (Q:VK),Inv X pins σ H s->RelV x v->RelV y u->r x y H Q->
  wpAny (model X.prog X.w) X.A (f v u) (EP X pins σ Q) X.xe s
noncomputable def UnR (X:Cx) (f:Value->Sem Value) (r:V->Hp->VK->Prop):Prop:=
 ∀ (pins:List (Addr × Obj)) (s:Shared) (σ:St) (H:Hp) (x:V) (v:Value) (Q:VK),Inv X pins σ H s->RelV x v->r x H Q->
  wpAny (model X.prog X.w) X.A (f v) (EP X pins σ Q) X.xe s
noncomputable def jB (X:Cx) (f:Value) (r:List V->Hp->VK->Prop):Prop:=
 ∀ (pins:List (Addr × Obj)) (s:Shared) (σ:St) (H:Hp) (xs:List V) (us:List Value) (Q:VK),Inv X pins σ H s->Vals xs us->r xs H Q->
  wpAny (model X.prog X.w) X.A (call f us) (EP X pins σ Q) X.xe s
noncomputable def tOp (r:R2) (ta tb:TE):TE:=λσ H Q=>ta σ H λx H1=>tb σ H1 λy H2=>r x y H2 Q
noncomputable def tUn (r:V->Hp->VK->Prop) (ta:TE):TE:=λσ H Q=>ta σ H λx H1=>r x H1 Q
noncomputable def rI (C:Int->Int->Prop) (g:Int->Int->V):R2:=λx y H Q=>∃ i j,x=.int i/\y=.int j/\C i j/\Q (g i j) H
noncomputable def rI0 (g:Int->Int->V):R2:=λx y H Q=>∃ i j,x=.int i/\y=.int j/\Q (g i j) H
noncomputable def rU (g:Int->V):V->Hp->VK->Prop:=λx H Q=>∃ i,x=.int i/\Q (g i) H
section
variable {X:Cx} {a b c:Expr} {ta tb tc:TE} {pos:Pos}
theorem binT (ha:PE X a ta) (hb:PE X b tb) {pins:List (Addr × Obj)} {s:Shared} {σ:St} {H:Hp} {R:V->V->Hp->Prop} (I:Inv X pins σ H s)
  (h:ta σ H λx H1=>tb σ H1 λy H2=>R x y H2) {Q:Value->Shared->Prop} {f:Value->Value->Sem Value}
  (hf:∀ v u s2 x y H2,Inv X pins σ H2 s2->RelV x v->RelV y u->R x y H2->wpAny (model X.prog X.w) X.A (f v u) Q X.xe s2) :
  wpAny (model X.prog X.w) X.A (eval a X.env) (λv s₁=>wpAny (model X.prog X.w) X.A (eval b X.env) (λu s₂=>wpAny (model X.prog X.w) X.A (f v u) Q X.xe s₂) X.xe s₁) X.xe s:=by
 refine thn (ha pins s σ H _ I h) λv s1 zz=>?_
 obtain ⟨x,H1,I1,r1,q1⟩:=zz;refine thn (hb pins s1 σ H1 _ I1 q1) λu s2 zz=>?_
 obtain ⟨y,H2,I2,r2,q2⟩:=zz;exact hf v u s2 x y H2 I2 r1 r2 q2
theorem zP {op:Operator} {r:R2} (ho:OpR X (binaryOp op) r) (ha:PE X a ta) (hb:PE X b tb):PE X (.BinOp a op b pos) (tOp r ta tb):=by
 intro pins s σ H Q I h;exact wpAny_BinOp (binT ha hb I h λv u s2 x y H2 I2 rx ry q=>ho pins s2 σ H2 x y v u Q I2 rx ry q)
theorem YR {op:UnaryOp} {r:V->Hp->VK->Prop} (ho:UnR X (unaryOp op) r) (ha:PE X a ta):PE X (.UnaryOp op a pos) (tUn r ta):=by
 intro pins s σ H Q I h;exact UnaryOp_ (thn (ha pins s σ H _ I h) λv s1 ⟨x,H1,I1,r1,q1⟩=>ho pins s1 σ H1 x v Q I1 r1 q1)
theorem opI {f:Value->Value->Sem Value} {C:Int->Int->Prop} {g:Int->Int->Int}
  (rule:∀ (i j:Int) (t u:Tok) (s:Shared) (Q:Value->Shared->Prop) (E:Value->Shared->Prop),C i j->Q (.int (g i j) s.toks) {s with toks:=s.toks+1}->wpAny (model X.prog X.w) X.A (f (.int i t) (.int j u)) Q E s) :
  OpR X f (rI C λi j=>.int (g i j)):=by
 intro pins s σ H x y v u Q I rx ry h;obtain ⟨i,j,rfl,rfl,hc,q⟩:=h;obtain ⟨t,rfl⟩:=rx;obtain ⟨t',rfl⟩:=ry;exact rule i j t t' s _ _ hc ⟨.int (g i j),H,I.tok _,⟨_,rfl⟩,q⟩
theorem opI0 {f:Value->Value->Sem Value} {g:Int->Int->Int}
  (rule:∀ (i j:Int) (t u:Tok) (s:Shared) (Q:Value->Shared->Prop) (E:Value->Shared->Prop),Q (.int (g i j) s.toks) {s with toks:=s.toks+1}->wpAny (model X.prog X.w) X.A (f (.int i t) (.int j u)) Q E s) :
  OpR X f (rI0 λi j=>.int (g i j)):=by
 intro pins s σ H x y v u Q I rx ry h;obtain ⟨i,j,rfl,rfl,q⟩:=h;obtain ⟨t,rfl⟩:=rx;obtain ⟨t',rfl⟩:=ry;exact rule i j t t' s _ _ ⟨.int (g i j),H,I.tok _,⟨_,rfl⟩,q⟩
theorem opB0 {f:Value->Value->Sem Value} {g:Int->Int->Bool}
  (rule:∀ (i j:Int) (t u:Tok) (s:Shared) (Q:Value->Shared->Prop) (E:Value->Shared->Prop),Q (.bool (g i j)) s->wpAny (model X.prog X.w) X.A (f (.int i t) (.int j u)) Q E s) :
  OpR X f (rI0 λi j=>.bl (g i j)):=by
 intro pins s σ H x y v u Q I rx ry h;obtain ⟨i,j,rfl,rfl,q⟩:=h;obtain ⟨t,rfl⟩:=rx;obtain ⟨t',rfl⟩:=ry;exact rule i j t t' s _ _ ⟨.bl (g i j),H,I,rfl,q⟩
theorem zt:OpR X (binaryOp .Add) (rI0 λi j=>.int (i+j)):=opI0 λ_ _ _ _ _ _ _ q=>add_int q
theorem ZW:OpR X (binaryOp .Sub) (rI0 λi j=>.int (i - j)):=opI0 λ_ _ _ _ _ _ _ q=>sub_int q
theorem J0:OpR X (binaryOp .Mod) (rI (λ_ j=>0 < j) λi j=>.int (i % j)):=opI λi j _ _ _ _ _ hc q=>by
 have h1:(0:Int) < j:=hc;exact mod_int' (by omega) (by rw [Int.fmod_eq_emod_of_nonneg i (by omega)]; exact q)
theorem unI {f:Value->Sem Value} {g:Int->Int}
  (rule:∀ (i:Int) (t:Tok) (s:Shared) (Q:Value->Shared->Prop) (E:Value->Shared->Prop),Q (.int (g i) s.toks) {s with toks:=s.toks+1}->wpAny (model X.prog X.w) X.A (f (.int i t)) Q E s) :
  UnR X f (rU λi=>.int (g i)):=by
 intro pins s σ H x v Q I rx h;obtain ⟨i,rfl,q⟩:=h;obtain ⟨t,rfl⟩:=rx;exact rule i t s _ _ ⟨.int (g i),H,I.tok _,⟨_,rfl⟩,q⟩
theorem ZE:UnR X (unaryOp .USub) (rU λi=>.int (-i)):=unI λ_ _ _ _ _ q=>neg_int q
end
noncomputable def scal:V->V->Bool
 |.non,.non=>true|.non,.int _=>true|.int _,.non=>true|.non,.bl _=>true|.bl _,.non=>true|.non,.str _=>true|.str _,.non=>true
 |.int _,.int _=>true|.bl _,.bl _=>true|.str _,.str _=>true|.byt _,.byt _=>true
 |.int _,.str _=>true|.str _,.int _=>true|.bl _,.str _=>true|.str _,.bl _=>true
 |_,_=>false
noncomputable def rEq:R2:=λx y H Q=>scal x y=true/\Q (.bl (decide (x=y))) H
noncomputable def rNe:R2:=λx y H Q=>scal x y=true/\Q (.bl (!decide (x=y))) H
theorem dec_int {i j:Int}:decide (V.int i=V.int j)=(i == j):=by
 rw [Bool.eq_iff_iff];simp
theorem dec_bl {i j:Bool}:decide (V.bl i=V.bl j)=(i == j):=by
 rw [Bool.eq_iff_iff];simp
theorem dec_str {i j:Str}:decide (V.str i=V.str j)=(i == j):=by
 rw [Bool.eq_iff_iff];simp
theorem dec_byt {i j:Array UInt8}:decide (V.byt i=V.byt j)=(i.toList == j.toList):=by
 rw [Bool.eq_iff_iff];cases i
 cases j
 simp
section
variable {X:Cx} {a b c:Expr} {ta tb tc:TE} {pos:Pos}
theorem zg {pins:List (Addr × Obj)} {σ:St} {H:Hp} {s:Shared} {Q:VK} {k k':Bool} (I:Inv X pins σ H s) (q:Q (.bl k) H) (e:k=k'):EP X pins σ Q (.bool k') s:=by
 subst e;exact ⟨.bl k,H,I,rfl,q⟩
theorem jh:OpR X (compareOp .Eq) rEq:=by
 intro pins s σ H x y v u Q I rx ry h;obtain ⟨hs,q⟩:=h;cases x with
 |non=>
  cases rx
  cases y with
  |non=>cases ry; exact PySem.EqNone.eq_none_none (zg I q (by simp))
  |bl j=>cases ry; exact PySem.EqNone.eq_none_bool (zg I q (by simp))
  |int j=>obtain ⟨t',rfl⟩:=ry; exact PySem.EqNone.eq_none_int (zg I q (by simp))
  |str j=>obtain ⟨t',rfl⟩:=ry; exact PySem.EqNone.eq_none_str (zg I q (by simp))
  |_=>exact absurd (show false=true from hs) Bool.false_ne_true
 |bl i=>
  cases rx
  cases y with
  |non=>cases ry; exact PySem.EqNone.eq_bool_none (zg I q (by simp))
  |bl j=>cases ry; exact eq_bool (zg I q dec_bl)
  |str j=>obtain ⟨t',rfl⟩:=ry; exact PySem.EqMixed.eq_bool_str (zg I q (by simp))
  |_=>exact absurd (show false=true from hs) Bool.false_ne_true
 |int i=>
  obtain ⟨t,rfl⟩:=rx;cases y with
  |non=>cases ry; exact PySem.EqNone.eq_int_none (zg I q (by simp))
  |int j=>obtain ⟨t',rfl⟩:=ry; exact eq_int (zg I q dec_int)
  |str j=>obtain ⟨t',rfl⟩:=ry; exact PySem.EqMixed.eq_int_str (zg I q (by simp))
  |_=>exact absurd (show false=true from hs) Bool.false_ne_true
 |str i=>
  obtain ⟨t,rfl⟩:=rx;cases y with
  |non=>cases ry; exact PySem.EqNone.eq_str_none (zg I q (by simp))
  |bl j=>cases ry; exact PySem.EqMixed.eq_str_bool (zg I q (by simp))
  |int j=>obtain ⟨t',rfl⟩:=ry; exact PySem.EqMixed.eq_str_int (zg I q (by simp))
  |str j=>obtain ⟨t',rfl⟩:=ry; exact eq_str (zg I q dec_str)
  |_=>exact absurd (show false=true from hs) Bool.false_ne_true
 |byt i=>
  obtain ⟨t,rfl⟩:=rx;cases y with
  |byt j=>obtain ⟨t',rfl⟩:=ry; exact PySem.W.eq_bytes (zg I q dec_byt)
  |_=>exact absurd (show false=true from hs) Bool.false_ne_true
 |_=>cases y<;>exact absurd (show false=true from hs) Bool.false_ne_true
theorem op_ne:OpR X (compareOp .NotEq) rNe:=by
 intro pins s σ H x y v u Q I rx ry h;obtain ⟨hs,q⟩:=h;cases x with
 |non=>
  cases rx
  cases y with
  |non=>cases ry; exact PySem.EqNone.ne_none_none (zg I q (by simp))
  |bl j=>cases ry; exact PySem.EqNone.ne_none_bool (zg I q (by simp))
  |int j=>obtain ⟨t',rfl⟩:=ry; exact PySem.EqNone.ne_none_int (zg I q (by simp))
  |str j=>obtain ⟨t',rfl⟩:=ry; exact PySem.EqNone.ne_none_str (zg I q (by simp))
  |_=>exact absurd (show false=true from hs) Bool.false_ne_true
 |bl i=>
  cases rx
  cases y with
  |non=>cases ry; exact PySem.EqNone.ne_bool_none (zg I q (by simp))
  |bl j=>cases ry; exact ne_bool (zg I q (congrArg not dec_bl))
  |str j=>obtain ⟨t',rfl⟩:=ry; exact PySem.EqMixed.ne_bool_str (zg I q (by simp))
  |_=>exact absurd (show false=true from hs) Bool.false_ne_true
 |int i=>
  obtain ⟨t,rfl⟩:=rx;cases y with
  |non=>cases ry; exact PySem.EqNone.ne_int_none (zg I q (by simp))
  |int j=>obtain ⟨t',rfl⟩:=ry; exact ne_int (zg I q (congrArg not dec_int))
  |str j=>obtain ⟨t',rfl⟩:=ry; exact PySem.EqMixed.ne_int_str (zg I q (by simp))
  |_=>exact absurd (show false=true from hs) Bool.false_ne_true
 |str i=>
  obtain ⟨t,rfl⟩:=rx;cases y with
  |non=>cases ry; exact PySem.EqNone.ne_str_none (zg I q (by simp))
  |bl j=>cases ry; exact PySem.EqMixed.ne_str_bool (zg I q (by simp))
  |int j=>obtain ⟨t',rfl⟩:=ry; exact PySem.EqMixed.ne_str_int (zg I q (by simp))
  |str j=>obtain ⟨t',rfl⟩:=ry; exact ne_str (zg I q (congrArg not dec_str))
  |_=>exact absurd (show false=true from hs) Bool.false_ne_true
 |byt i=>
  obtain ⟨t,rfl⟩:=rx;cases y with
  |byt j=>obtain ⟨t',rfl⟩:=ry; exact PySem.W.ne_bytes (zg I q (congrArg not dec_byt))
  |_=>exact absurd (show false=true from hs) Bool.false_ne_true
 |_=>cases y<;>exact absurd (show false=true from hs) Bool.false_ne_true
theorem Y6:OpR X (compareOp .Lt) (rI0 λi j=>.bl (decide (i < j))):=opB0 λ_ _ _ _ _ _ _ q=>lt_int q
theorem J4:OpR X (compareOp .LtE) (rI0 λi j=>.bl (decide (i<=j))):=opB0 λ_ _ _ _ _ _ _ q=>le_int q
theorem op_gt:OpR X (compareOp .Gt) (rI0 λi j=>.bl (decide (j < i))):=opB0 λ_ _ _ _ _ _ _ q=>gt_int q
theorem Y7:OpR X (compareOp .GtE) (rI0 λi j=>.bl (decide (j<=i))):=opB0 λ_ _ _ _ _ _ _ q=>ge_int q
theorem J1:OpR X (compareOp .Is) (λx y H Q=>y=.non/\Q (.bl (decide (x=.non))) H):=by
 intro pins s σ H x y v u Q I rx ry h;obtain ⟨rfl,q⟩:=h;cases ry
 refine is_none_gen (zg I q ?_);cases x<;>first
  | (cases rx; rfl)
  | (obtain ⟨t,rfl⟩:=rx; rfl)
theorem op_notN:OpR X (compareOp .IsNot) (λx y H Q=>y=.non/\Q (.bl (!decide (x=.non))) H):=by
 intro pins s σ H x y v u Q I rx ry h;obtain ⟨rfl,q⟩:=h;cases ry
 refine isnot_none_gen (zg I q ?_);cases x<;>first
  | (cases rx; rfl)
  | (obtain ⟨t,rfl⟩:=rx; rfl)
theorem zS (b:Expr) {op:CmpOp} (h:op≠.In:=by decide) (h2:op≠.NotIn:=by decide):behindInMarks op b=false:=by
 have e1:(op == CmpOp.In)=false:=by cases op<;>first|rfl|exact absurd rfl h
 have e2:(op == CmpOp.NotIn)=false:=by cases op<;>first|rfl|exact absurd rfl h2
 cases b<;>simp [behindInMarks,e1,e2]
theorem ym {op:CmpOp} {r:R2} (ho:OpR X (compareOp op) r) (ha:PE X a ta) (hb:PE X b tb) (hm:behindInMarks op b=false):PE X (.Compare a [op] [b] pos) (tOp r ta tb):=by
 intro pins s σ H Q I h;exact wpAny_Compare1 (binT ha hb I h λv u s2 x y H2 I2 rx ry q=>ho pins s2 σ H2 x y v u Q I2 rx ry q) hm
noncomputable def tTest (t:TE):TT:=λσ H Q=>t σ H λx H'=>∃ k,x=.bl k/\Q k H'
theorem zR {op:CmpOp} {r:R2} (ho:OpR X (compareOp op) r) (ha:PE X a ta) (hb:PE X b tb) (hm:behindInMarks op b=false):PT X (.Compare a [op] [b] pos) (tTest (tOp r ta tb)):=by
 intro pins s σ H Q I h
 refine wpAny_isTrue_Compare1 (thn (ha pins s σ H _ I h) λv s1 ⟨x,H1,I1,r1,q1⟩=>thn (hb pins s1 σ H1 _ I1 q1) λu s2 ⟨y,H2,I2,r2,q2⟩=>
  thn (ho pins s2 σ H2 x y v u _ I2 r1 r2 q2) λc s3 ⟨z,H3,I3,r3,k,e,q3⟩=>?_) hm
 subst e;cases r3
 exact wpAny_truthy_bool ⟨H3,I3,q3⟩
noncomputable def tChain (r r':R2) (ta tb tc:TE):TE:=λσ H Q=>ta σ H λx H1=>tb σ H1 λy H2=>r x y H2 λz H3=>∃ k,z=.bl k/\
 (if k=true then tc σ H3 λw' H4=>r' y w' H4 Q else Q (.bl false) H3)
theorem pe_chain {op op':CmpOp} {r r':R2} (ho:OpR X (compareOp op) r) (ho':OpR X (compareOp op') r') (ha:PE X a ta) (hb:PE X b tb) (hc:PE X c tc)
  (hm:lastMarks [op,op'] [b,c]=false:=by with_unfolding_all rfl):PE X (.Compare a [op,op'] [b,c] pos) (tChain r r' ta tb tc):=by
 intro pins s σ H Q I h
 refine Compare_chain (thn (ha pins s σ H _ I h) λv s1 ⟨x,H1,I1,r1,q1⟩=>chain_link (thn (hb pins s1 σ H1 _ I1 q1) λu s2 ⟨y,H2,I2,r2,q2⟩=>
  thn (ho pins s2 σ H2 x y v u _ I2 r1 r2 q2) λd s3 ⟨z,H3,I3,r3,k,e,q3⟩=>?_)) hm
 subst e;cases r3
 refine wpAny_truthy_bool ?_;cases k with
 |false=>exact ite_ff ⟨.bl false,H3,I3,rfl,q3⟩
 |true=>exact ite_tt (chain_last (thn (hc pins s3 σ H3 _ I3 q3) λw' s4 ⟨z',H4,I4,r4,q4⟩=>ho' pins s4 σ H4 y z' u w' Q I4 r2 r4 q4))
theorem pt_chain {op op':CmpOp} {r r':R2} (ho:OpR X (compareOp op) r) (ho':OpR X (compareOp op') r') (ha:PE X a ta) (hb:PE X b tb) (hc:PE X c tc)
  (hm:lastMarks [op,op'] [b,c]=false:=by with_unfolding_all rfl):PT X (.Compare a [op,op'] [b,c] pos) (tTest (tChain r r' ta tb tc)):=by
 intro pins s σ H Q I h
 refine isTrue_chain (thn (ha pins s σ H _ I h) λv s1 ⟨x,H1,I1,r1,q1⟩=>test_link (thn (hb pins s1 σ H1 _ I1 q1) λu s2 ⟨y,H2,I2,r2,q2⟩=>
  thn (ho pins s2 σ H2 x y v u _ I2 r1 r2 q2) λd s3 ⟨z,H3,I3,r3,k,e,q3⟩=>?_)) hm
 subst e;cases r3
 refine wpAny_truthy_bool ?_;cases k with
 |false=>
  obtain ⟨k',e',q'⟩:=q3;cases e'
  exact ite_ff ⟨H3,I3,q'⟩
 |true=>
  refine ite_tt (test_last (thn (hc pins s3 σ H3 _ I3 q3) λw' s4 ⟨z',H4,I4,r4,q4⟩=>thn (ho' pins s4 σ H4 y z' u w' _ I4 r2 r4 q4) λd' s5 zz=>?_))
  obtain ⟨z2,H5,I5,r5,k2,e2,q5⟩:=zz;subst e2;cases r5
  exact wpAny_truthy_bool ⟨H5,I5,q5⟩
theorem line63:(sizeLine:Nat) < 2 ^ 63:=by rw [sizeLine_eq]; decide
theorem Ze {x:V} {us:List Value} (r:Vals [x] us):∃ u,us=[u]/\RelV x u:=by
 cases r with
 |cons r1 r2=>cases r2; exact ⟨_,rfl,r1⟩
theorem vals2 {x y:V} {us:List Value} (r:Vals [x,y] us):∃ u w',us=[u,w']/\RelV x u/\RelV y w':=by
 cases r with
 |cons r1 r2=>
  cases r2 with
  |cons r3 r4=>cases r4; exact ⟨_,_,rfl,r1,r3⟩
theorem Y1:jB X (.builtin "abs") (λxs H Q=>∃ i,xs=[.int i]/\Q (.int (if i < 0 then -i else i)) H):=by
 intro pins s σ H xs us Q I r h;obtain ⟨i,rfl,q⟩:=h;obtain ⟨u,rfl,t,rfl⟩:=Ze r;exact call_abs_int λu tk=>⟨.int (if i < 0 then -i else i),H,I.tok _,⟨_,rfl⟩,q⟩
theorem call_max2 (hc:X.calm=true):jB X (.builtin "max") (λxs H Q=>∃ i j,xs=[.int i,.int j]/\Q (.int (if j > i then j else i)) H):=by
 intro pins s σ H xs us Q I r h;obtain ⟨i,j,rfl,q⟩:=h;obtain ⟨u,w',rfl,⟨t,rfl⟩,⟨t',rfl⟩⟩:=vals2 r;refine max_two_ints (I.ok.hd hc) λh' tk k=>⟨_,H,I.kept k,?_,q⟩
 by_cases hj:j > i
 ·rw [if_pos hj,if_pos hj]; exact ⟨_,rfl⟩
 ·rw [if_neg hj,if_neg hj]; exact ⟨_,rfl⟩
theorem call_min2 (hc:X.calm=true):jB X (.builtin "min") (λxs H Q=>∃ i j,xs=[.int i,.int j]/\Q (.int (if j < i then j else i)) H):=by
 intro pins s σ H xs us Q I r h;obtain ⟨i,j,rfl,q⟩:=h;obtain ⟨u,w',rfl,⟨t,rfl⟩,⟨t',rfl⟩⟩:=vals2 r;refine min_two_ints (I.ok.hd hc) λh' tk k=>⟨_,H,I.kept k,?_,q⟩
 by_cases hj:j < i
 ·rw [if_pos hj,if_pos hj]; exact ⟨_,rfl⟩
 ·rw [if_neg hj,if_neg hj]; exact ⟨_,rfl⟩
theorem call_int1:jB X (.type "int") (λxs H Q=>(∃ i,xs=[.int i]/\Q (.int i) H)\/∃ k,xs=[.bl k]/\Q (.int (if k then 1 else 0)) H):=by
 intro pins s σ H xs us Q I r h;rcases h with ⟨i,rfl,q⟩|⟨k,rfl,q⟩
 ·obtain ⟨u,rfl,t,rfl⟩:=Ze r;exact call_int_int ⟨.int i,H,I,⟨_,rfl⟩,q⟩
 ·obtain ⟨u,rfl,r1⟩:=Ze r;cases r1
  exact call_int_bool ⟨.int (if k then 1 else 0),H,I.tok _,⟨_,rfl⟩,q⟩
noncomputable def LenV (K:Frag) (x:V) (H:Hp) (n:Nat):Prop:=
 match x with
 |.str y=>y.length<=sizeLine/\n=y.length
 |.byt y=>y.size<=sizeLine/\n=y.size
 |.ref p=>(∃ xs,SqL K H p xs/\n=xs.length)\/∃ xs,SqT K H p xs/\n=xs.length
 |_=>False
theorem yI:jB X (.builtin "len") (λxs H Q=>∃ x n,xs=[x]/\LenV X.K x H n/\Q (.int n) H):=by
 intro pins s σ H xs us Q I r h;obtain ⟨x,n,rfl,e,q⟩:=h;obtain ⟨u,rfl,rx⟩:=Ze r;have hl:=line63;have hs:sizeLine=16777216:=sizeLine_eq;cases x with
 |str y=>
  obtain ⟨t,rfl⟩:=rx;obtain ⟨hy,e'⟩:y.length<=sizeLine/\n=y.length:=e;subst e';exact len_str (by omega) ⟨.int _,H,I.tok _,⟨_,rfl⟩,q⟩
 |byt y=>
  obtain ⟨t,rfl⟩:=rx;obtain ⟨hy,e'⟩:y.size<=sizeLine/\n=y.size:=e;subst e';exact PySem.W.len_bytes (by omega) ⟨.int _,H,I.tok _,⟨_,rfl⟩,q⟩
 |ref p=>
  cases rx
  have e':(∃ xs,SqL X.K H p xs/\n=xs.length)\/∃ xs,SqT X.K H p xs/\n=xs.length:=e;rcases e' with ⟨xs,hx,e'⟩|⟨xs,hx,e'⟩
  ·subst e';obtain ⟨its,r',pl,hz⟩:=I.list hx;have hlen:=r'.length;exact Calls.call_len_list pl.isList (by simp only [List.size_toArray]; omega) ⟨.int xs.length,H,I.tok _,⟨_,by simp only [List.size_toArray]; rw [hlen]⟩,q⟩
  ·subst e';obtain ⟨its,r',pl,hz⟩:=I.tuple hx;have hlen:=r'.length;exact len_tuple pl (by simp only [List.size_toArray]; omega) ⟨.int xs.length,H,I.tok _,⟨_,by simp only [List.size_toArray]; rw [hlen]⟩,q⟩
 |_=>exact (show False from e).elim
end
end L2
namespace L2
open PySem PySem.Spec PyProof.Rows
structure ObjM (h:Heap) (x dx C:Addr) (mA:Str->Option Value):Prop where
 obj:h.get? x=some (instObj C dx)
 ns:h.Ns1 dx mA
 ne:dx≠x
theorem lookIn_ns {h:Heap} {dx:Addr} {mA:Str->Option Value} (n:h.Ns1 dx mA):∃ od,h.get? dx=some od/\∀ name,lookIn name od=some (mA name):=by
 obtain ⟨o,es,ep,ho,hd,hk,_,hm⟩:=n;refine ⟨o,ho,λname=>?_⟩
 have e:=hm name;unfold nsFind findBy at e;rw [<- Array.find?_toList] at e;unfold lookIn;rw [hd];dsimp only;split
 ·rename_i y q
  rw [q] at e;exact congrArg some e
 ·rename_i q
  rw [q] at e;have a:es.toList.any (·.refKey)=false:=by
   rw [List.any_eq_false];intro y hy;obtain ⟨z,t,hkey⟩:=hk y (Array.mem_toList_iff.mp hy);simp [DictEntry.refKey,hkey]
  have a':¬ es.toList.any (·.refKey)=true:=by rw [a]; exact Bool.false_ne_true
  rw [if_neg a'];exact congrArg some e
theorem ObjM.look {h:Heap} {x dx C:Addr} {mA:Str->Option Value} (I:ObjM h x dx C mA):∃ od,PySem.W.InstAt h x (instObj C dx) C (some od)/\∀ name,lookIn name od=some (mA name):=
 let ⟨od,ho,hl⟩:=lookIn_ns I.ns
 ⟨od,⟨I.obj,rfl,rfl,ho⟩,hl⟩
section
variable {prog:Program} {w:World} {A:Around} {E:Value->Shared->Prop} {s:Shared} {K:Frag} {x dx C f:Addr} {mA:Str->Option Value} {name:Str} {v:Value}
theorem get_map {expr:Bool} {Q:Value->Shared->Prop} (X:K.In s.heap) (I:ObjM s.heap x dx C mA) (hg:plainGet K C name=true) (hh:hasDictIn K C=true)
  (ha:findIn K (.ref C) name=some none) (hv:mA name=some v) (hv':PySem.W.handedIn v=true) (h:Q v {s with toks:=s.toks+1}) :
  wpAny (model prog w) A (getAttr (.ref x) name expr) Q E s:=by
 obtain ⟨od,J,hl⟩:=I.look;exact PySem.W.get_value X J (plainGet_of hg).1 (PySem.W.findObj_own hh ha rfl (by rw [hl,hv])) hv' h
theorem get_meth {pl:Sem Bool} {Q:Value × List Value->Shared->Prop} (X:K.In s.heap) (I:ObjM s.heap x dx C mA) (hg:plainGet K C name=true)
  (hf:findIn K (.ref C) name=some (some (.ref f))) (ht:isFn K (.ref f)=true) (hv:mA name=none) (h:Q (.ref f,[.ref x]) s) :
  wpAny (model prog w) A (getMethod (.ref x) name pl) Q E s:=by
 obtain ⟨od,J,hl⟩:=I.look;exact PySem.W.method_fn X J (plainGet_of hg).1 (plainGet_of hg).2 hf (beq_iff_eq.mp ht) (by show (lookIn name od).map (·.isSome)=some false; rw [hl,hv]; rfl) h
theorem set_map {ns:List Str} {Q:Unit->Shared->Prop} (X:K.In s.heap) (I:ObjM s.heap x dx C mA)
  (hs:findIn K (.ref C) "__setattr__"=some (some (.builtin "object.__setattr__"))) (hp:plainOver K C=true) (ht:takerIn K C name=some none) (hh:hasDictIn K C=true)
  (hw:PySem.Within mA ns) (hsz:ns.length<=sizeLine)
  (h:∀ h',ObjM h' x dx C (λy=>if y=name then some v else mA y)->Heap.SameBut dx s.heap h'->Q () {s with heap:=h',toks:=s.toks+2}) :
  wpAny (model prog w) A (setAttr (.ref x) name v) Q E s:=by
 obtain ⟨od,J,hl⟩:=I.look;refine PySem.W.set_plain X J hs (PySem.W.osa_open (s:={s with toks:=s.toks+1}) (r:=none) X J hp ht λb=>?_)
 obtain ⟨cd,hc,hd'⟩:=PySem.W.any_some hh;have hx:s.heap.get? x=some ⟨.ref C,some dx,.plain,#[]⟩:=I.obj;refine wpAny_bind (wpAny_pure (wpAny_bind (wpAny_bind (wpAny_loadPart hx (wpAny_bind (PySem.W.Looks.here (s:={s with toks:=s.toks+1}) (PySem.W.looks_clsIn X hc) ?_))))))
 rw [hd'];refine wpAny_pure (a:=some dx) (wpAny_bind (wpAny_pure (wpAny_bind ?_)));refine wpAny_nsSet1 (s:={s with toks:=s.toks+1}) I.ns λh' EL fP=>?_
 obtain ⟨oD,esD,epD,hoD,hdD,hcD⟩:=EL.count (PySem.Within.cons name v hw);refine wpAny_bind (wpAny_lookBehind hoD (by rw [hdD]; exact pastItsLine_dict (Nat.le_trans hcD (by rw [List.length_cons]; omega))) ?_)
 exact wpAny_pure (h _ ⟨(fP.2 _ (Ne.symm I.ne)).trans I.obj,EL,I.ne⟩ fP)
theorem make_map {R:Result->Shared->Prop} {vs:List Value} {kw:List (Str × Value)} (X:K.In s.heap) (hm:makesIn K C=true)
  (hi:findIn K (.ref C) "__init__"=some (some (.ref f))) (hf:PySem.W.typeIn K (.ref f)=some (.type "function"))
  (h:codeAny (model prog w) (A.under (.builtin "type.__call__" ⟨.ref C::vs,kw⟩)) (.call (.ref f) ⟨.ref (s.heap.objs.size+1)::vs,kw⟩) (PySem.W.InitBack (s.heap.objs.size+1) R)
   {s with heap:=(s.heap.push emptyDict).push (instObj C s.heap.objs.size)}) :
  codeAny (model prog w) A (.call (.ref C) ⟨vs,kw⟩) R s:=by
 obtain ⟨hh,g,d,t,os⟩:=s;exact PySem.W.make_core (PySem.W.makes_of X hm) (PySem.W.looks_findIn X hi) (λself=>PySem.W.bind_fn X self hf) (.inl rfl) h
end
noncomputable def putF (f:Str) (v:V):List (Str × V)->List (Str × V)
 |[]=>[(f,v)]
 | (g,x)::r=>if g=f then (g,v)::r else (g,x)::putF f v r
theorem JU (f g:Str) (v:V):∀ fs:List (Str × V),(putF f v fs).lookup g=if g=f then some v else fs.lookup g
 |[]=>by
  show List.lookup g [(f,v)]=_;by_cases h:g=f
  ·have hb:(g == f)=true:=beq_iff_eq.mpr h;simp only [List.lookup,hb,if_pos h]
  ·have hb:(g == f)=false:=beq_eq_false_iff_ne.mpr h;simp only [List.lookup,hb,if_neg h]
 | (k,x)::r=>by
  have ih:=JU f g v r;rw [show putF f v ((k,x)::r)=(if k=f then (k,v)::r else (k,x)::putF f v r) from rfl]
  by_cases hk:k=f
  ·rw [if_pos hk];by_cases h:g=k
   ·have hb:(g == k)=true:=beq_iff_eq.mpr h;simp only [List.lookup,hb,if_pos (h.trans hk)]
   ·have hb:(g == k)=false:=beq_eq_false_iff_ne.mpr h;simp only [List.lookup,hb,if_neg (λe:g=f=>h (e.trans hk.symm))]
  ·rw [if_neg hk];by_cases h:g=k
   ·have hb:(g == k)=true:=beq_iff_eq.mpr h;simp only [List.lookup,hb,if_neg (λe:g=f=>hk (h.symm.trans e))]
   ·have hb:(g == k)=false:=beq_eq_false_iff_ne.mpr h;simp only [List.lookup,hb];exact ih
theorem JL (f:Str) (v:V):∀ fs:List (Str × V),f∈(putF f v fs).map (·.1)/\∀ g,g∈fs.map (·.1)->g∈(putF f v fs).map (·.1)
 |[]=>⟨by simp [putF],λg h=>by simp at h⟩
 | (k,x)::r=>by
  obtain ⟨i1,i2⟩:=JL f v r;rw [show putF f v ((k,x)::r)=(if k=f then (k,v)::r else (k,x)::putF f v r) from rfl]
  by_cases hk:k=f
  ·rw [if_pos hk];subst hk;exact ⟨by simp,λg h=>by simpa using h⟩
  ·rw [if_neg hk];refine ⟨?_,λg h=>?_⟩
   ·rw [List.map_cons];exact List.mem_cons_of_mem _ i1
   ·rw [List.map_cons] at h ⊢;rcases List.mem_cons.mp h with e|e
    ·exact List.mem_cons.mpr (.inl e)
    ·exact List.mem_cons_of_mem _ (i2 g e)
theorem JZ (f:Str) (v:V):∀ fs:List (Str × V),(putF f v fs).length<=fs.length+1
 |[]=>by simp [putF]
 | (k,x)::r=>by
  have ih:=JZ f v r;rw [show putF f v ((k,x)::r)=(if k=f then (k,v)::r else (k,x)::putF f v r) from rfl]
  by_cases hk:k=f
  ·rw [if_pos hk,List.length_cons,List.length_cons]; omega
  ·rw [if_neg hk,List.length_cons,List.length_cons]; omega
theorem RelO.some_of {v:V} {o:Option Value} (r:RelO (some v) o):∃ u,o=some u/\RelV v u:=by
 cases o with
 |none=>exact (show False from r).elim
 |some u=>exact ⟨u,rfl,r⟩
theorem RelO.none_of {o:Option Value} (r:RelO none o):o=none:=by
 cases o with
 |none=>rfl
 |some u=>exact (show False from r).elim
theorem handed_of {v:V} {u:Value} (r:RelV v u):PySem.W.handedIn u=true:=by
 cases v with
 |non=>cases (show u=Value.none from r); rfl
 |bl b=>cases (show u=Value.bool b from r); rfl
 |int i=>obtain ⟨t,e⟩:=(show ∃ t,u=Value.int i t from r); cases e; rfl
 |str x=>obtain ⟨t,e⟩:=(show ∃ t,u=Value.str x t from r); cases e; rfl
 |byt b=>obtain ⟨t,e⟩:=(show ∃ t,u=Value.bytes b t from r); cases e; rfl
 |flt b=>obtain ⟨t,e⟩:=(show ∃ t,u=Value.float b t from r); cases e; rfl
 |ref a=>cases (show u=Value.ref a from r); rfl
 |ty n=>cases (show u=Value.type n from r); rfl
section
variable {P:Program} {w:World} {H H':Hp} {h h':Heap} {a C dx:Addr} {fs fs':List (Str × V)}
theorem Jr (hok:HOk P w H h) (e:H a=some (.ins C dx fs)):∃ mA,ObjM h a dx C mA/\(∀ f,RelO (fs.lookup f) (mA f))/\PySem.Within mA (fs.map (·.1))/\fs.length<=1000/\H dx=some (.own a):=by
 obtain ⟨d,z,ne,ob,mA,n,r,q⟩:=(show zu P w H h a (.ins C dx fs) from hok a _ e);exact ⟨mA,⟨ob,n,ne⟩,r,q,z,d⟩
end
structure Cls (K:Frag) (C:Addr):Prop where
 pg:plainGet K C Str.empty=true
 hd:hasDictIn K C=true
 po:plainOver K C=true
 sa:findIn K (.ref C) "__setattr__"=some (some (.builtin "object.__setattr__"))
theorem Cls.get {K:Frag} {C:Addr} (c:Cls K C) (f:Str):plainGet K C f=true:=c.pg
noncomputable def yy (K:Frag) (C:Addr) (f:Str):Prop:=findIn K (.ref C) f=some none
theorem yy.taker {K:Frag} {C:Addr} {f:Str} (n:yy K C f):takerIn K C f=some none:=by
 unfold takerIn;rw [show findIn K (.ref C) f=some none from n];rfl
structure Meth (K:Frag) (C:Addr) (m:Str) (f:Addr):Prop where
 at_:findIn K (.ref C) m=some (some (.ref f))
 fn:isFn K (.ref f)=true
 kp:keepIn K (.ref f)=true
section
variable {X:Cx} {pins:List (Addr × Obj)} {σ:St} {H:Hp} {s:Shared} {a C dx:Addr} {fs:List (Str × V)} {f:Str} {v:V} {A:Around} {E:Value->Shared->Prop}
theorem J6 {b:Bool} {Q:Value->Shared->Prop} (I:Inv X pins σ H s) (e:H a=some (.ins C dx fs)) (c:Cls X.K C) (n:yy X.K C f) (l:fs.lookup f=some v)
  (h:∀ u s',Inv X pins σ H s'->RelV v u->Q u s'):wpAny (model X.prog X.w) A (getAttr (.ref a) f b) Q E s:=by
 obtain ⟨mA,O,r,_,_,_⟩:=Jr I.hok e;obtain ⟨u,hu,ru⟩:=RelO.some_of (v:=v) (o:=mA f) (by rw [<- l]; exact r f)
 exact get_map I.kIn O (c.get f) c.hd n hu (handed_of ru) (h u _ (I.tok _) ru)
theorem zAL {m:Str} {g:Addr} {pl:Sem Bool} {Q:Value × List Value->Shared->Prop} (I:Inv X pins σ H s) (e:H a=some (.ins C dx fs)) (c:Cls X.K C) (k:Meth X.K C m g) (l:fs.lookup m=none)
  (h:Q (.ref g,[.ref a]) s):wpAny (model X.prog X.w) A (getMethod (.ref a) m pl) Q E s:=by
 obtain ⟨mA,O,r,_,_,_⟩:=Jr I.hok e;have hn:mA m=none:=RelO.none_of (by rw [<- l]; exact r m)
 exact get_meth I.kIn O (c.get m) k.at_ k.fn hn h
theorem zAG {y:V} {u:Value} {Q:Unit->Shared->Prop} (I:Inv X pins σ H s) (e:H a=some (.ins C dx fs)) (c:Cls X.K C) (n:yy X.K C f) (hl:fs.length < 1000) (ry:RelV y u)
  (h:∀ s',Inv X pins σ (upd H a (.ins C dx (putF f y fs))) s'->Q () s'):wpAny (model X.prog X.w) A (setAttr (.ref a) f u) Q E s:=by
 obtain ⟨mA,O,r,wi,_,ho⟩:=Jr I.hok e;have hz:(fs.map (·.1)).length<=sizeLine:=by rw [List.length_map,sizeLine_eq]; omega
 refine set_map I.kIn O c.sa c.po n.taker c.hd wi hz λh' O' sb=>h _ ?_
 have hd:∃ o,h'.get? dx=some o:=let ⟨o,_,_,e',_⟩:=O'.ns; ⟨o,e'⟩;refine I.write (x:=a) (e:=dx) (by rw [e]; exact True.intro) (.inr ho) (λb q hb z=>(sb.2 b hb).trans z) hd ?_
 refine ⟨by rw [za O.ne]; exact ho,?_,O.ne,O'.obj,_,O'.ns,λg=>?_,λg hg=>?_⟩
 ·have:=JZ f y fs; omega
 ·show RelO ((putF f y fs).lookup g) (if g=f then some u else mA g)
  rw [JU];by_cases q:g=f
  ·rw [if_pos q,if_pos q]; exact ry
  ·rw [if_neg q,if_neg q]; exact r g
 ·by_cases q:g=f
  ·rw [q]; exact (JL f y fs).1
  ·refine (JL f y fs).2 g (wi g λz=>hg ?_)
   show (if g=f then some u else mA g)=none
   rw [if_neg q]; exact z
theorem Inv.made (I:Inv X pins σ H s):Inv X pins σ (upd (upd H s.heap.objs.size (.own (s.heap.objs.size+1))) (s.heap.objs.size+1) (.ins C s.heap.objs.size []))
  {s with heap:=(s.heap.push emptyDict).push (instObj C s.heap.objs.size)}:=by
 have e1:(s.heap.push emptyDict).get? s.heap.objs.size=some emptyDict:=Heap.get?_push_size s.heap rfl;have e2:((s.heap.push emptyDict).push (instObj C s.heap.objs.size)).get? (s.heap.objs.size+1)=some (instObj C s.heap.objs.size):=by
  have:=Heap.get?_push_size (s.heap.push emptyDict) (o:=instObj C s.heap.objs.size) rfl;rwa [Heap.size_push] at this
 have e3:(s.heap.push emptyDict).Ns s.heap.objs.size (λ_=>none):=⟨emptyDict,#[],_,e1,rfl,(λe he=>absurd he (by simp)),λ_=>rfl⟩
 have I1:=I.laid (a:=s.heap.objs.size) (o:=.own (s.heap.objs.size+1)) (h':=s.heap.push emptyDict) (t':=s.toks) (λb u q=>Heap.get?_push_of_some _ q) (Nat.le_refl _) ⟨_,e1⟩
 refine I1.laid (a:=s.heap.objs.size+1) (o:=.ins C s.heap.objs.size []) (t':=s.toks) (λb u q=>Heap.get?_push_of_some _ q) (Nat.le_of_eq (Heap.size_push _ _)) ?_
 have ne:s.heap.objs.size≠s.heap.objs.size+1:=Nat.ne_of_lt (Nat.lt_succ_self _);refine ⟨by rw [za ne,zw],Nat.zero_le _,ne,e2,λ_=>none,(Heap.Ns1.of_empty e3).at λo q=>Heap.get?_push_of_some _ q,λ_=>True.intro,λy hy=>absurd rfl hy⟩
theorem attr_of {prog:Program} {w:World} {env:Env} {e:Expr} {f:Str} {pos:Pos} {s:Shared} {Q:Value->Shared->Prop} (hb:attributeBase e f env (eval e env)=eval e env)
  (h:wpAny (model prog w) A (eval e env) (λo s₁=>wpAny (model prog w) A (getAttr o f true) Q E s₁) E s):wpAny (model prog w) A (eval (.Attribute e f pos) env) Q E s:=
 Attribute_any_ h (by rw [arm_eval_Attribute,hb])
end
noncomputable def InOp (X:Cx) (op:Operator) (rd:V->V->Hp->VK->Prop):Prop:=
 ∀ (pins:List (Addr × Obj)) (s:Shared) (σ:St) (H:Hp) (x y:V) (u v:Value) (Q:VK),Inv X pins σ H s->RelV x u->RelV y v->rd x y H Q->wpAny (model X.prog X.w) X.A (inplaceOp op u v) (EP X pins σ Q) X.xe s
section
variable {X:Cx} {o e value:Expr} {f:Str} {pos pos' tpos:Pos} {ta tv:TE}
noncomputable def rAdd:V->V->Hp->VK->Prop:=λx y H Q=>∃ i j,x=.int i/\y=.int j/\Q (.int (i+j)) H
theorem in_add:InOp X .Add rAdd:=by
 rintro pins s σ H x y u v Q I rx ry ⟨i,j,rfl,rfl,q⟩;obtain ⟨t,rfl⟩:=(show ∃ t,u=Value.int i t from rx);obtain ⟨t',rfl⟩:=(show ∃ t',v=Value.int j t' from ry);exact PyProof.Rows.iadd_int ⟨.int (i+j),H,I.tok _,⟨_,rfl⟩,q⟩
end
section
variable {X:Cx} {pins:List (Addr × Obj)} {σ:St} {H:Hp} {s:Shared} {A:Around} {E:Value->Shared->Prop} {Q:Value->Shared->Prop} {c:Value} {b:Bool}
inductive TyOf (K:Frag) (H:Hp):V->Value->Prop where
 |non:TyOf K H .non (.type "NoneType")
 |bl (x:Bool):TyOf K H (.bl x) (.type "bool")
 |int (i:Int):TyOf K H (.int i) (.type "int")
 |str (x:Str):TyOf K H (.str x) (.type "str")
 |flt (x:UInt64):TyOf K H (.flt x) (.type "float")
 |lst {a:Addr} {xs:List V} (e:H a=some (.lst xs)):TyOf K H (.ref a) (.type "list")
 |frz {a:Addr} {o:Obj} {xs:List V} (e:H a=some (.frz o (.lst xs))):TyOf K H (.ref a) (.type "list")
 |tup {a:Addr} {xs:List V} (e:H a=some (.tup xs)):TyOf K H (.ref a) (.type "tuple")
 |dK {a:Addr} {kvs:List (Key × V)} (e:H a=some (.dK kvs)):TyOf K H (.ref a) (.type "dict")
 |dT {a:Addr} {kvs:List (List Key × V)} (e:H a=some (.dT kvs)):TyOf K H (.ref a) (.type "dict")
 |ins {a C dx:Addr} {fs:List (Str × V)} (e:H a=some (.ins C dx fs)) (cl:Cls K C) (ha:findIn K (.ref C) "__class__"=some (some (.builtin "object.__class__")))
   (hn:PySem.W.specialIn K (.builtin "object.__class__") "__get__"=some (some (.builtin "getset_descriptor.__get__"))) (htk:PySem.W.takesIn K (.builtin "object.__class__")=some true)
   (hm:PySem.W.mroIn K C (.type "object")=some true):TyOf K H (.ref a) (.ref C)
theorem isinst_ok {x:V} {u t:Value} (I:Inv X pins σ H s) (rx:RelV x u) (ty:TyOf X.K H x t) (e:kitOne X.K t c=some b) (h:∀ tk,Q (.bool b) {s with toks:=tk}) :
  wpAny (model X.prog X.w) A (call (.builtin "isinstance") [u,c]) Q E s:=by
 cases ty with
 |non=>cases (show u=Value.none from rx); exact kia_one PySem.W.kitx_none I.kIn True.intro e (λz=>nomatch z) h
 |bl y=>cases (show u=Value.bool y from rx); exact kia_one PySem.W.kitx_bool I.kIn True.intro e (λz=>nomatch z) h
 |int i=>obtain ⟨t,q⟩:=(show ∃ t,u=Value.int i t from rx); cases q; exact kia_one PySem.W.kitx_int I.kIn True.intro e (λz=>nomatch z) h
 |str y=>obtain ⟨t,q⟩:=(show ∃ t,u=Value.str y t from rx); cases q; exact kia_one PySem.W.kitx_str I.kIn True.intro e (λz=>nomatch z) h
 |flt y=>obtain ⟨t,q⟩:=(show ∃ t,u=Value.float y t from rx); cases q; exact kia_one PySem.W.kitx_float I.kIn True.intro e (λz=>nomatch z) h
 |@lst a xs ea=>
  cases (show u=Value.ref a from rx)
  obtain ⟨_,_,n,_,h1⟩:=(show zu X.prog X.w H s.heap a (.lst xs) from I.hok a _ ea);exact kia_one PySem.W.kitx_list I.kIn ⟨_,h1,rfl⟩ e (λz=>nomatch z) h
 |@frz a ob xs ea=>
  cases (show u=Value.ref a from rx)
  obtain ⟨_,_,_,n,_,h1⟩:=(show zu X.prog X.w H s.heap a (.frz ob (.lst xs)) from I.hok a _ ea);exact kia_one PySem.W.kitx_list I.kIn ⟨_,h1,rfl⟩ e (λz=>nomatch z) h
 |@tup a xs ea=>
  cases (show u=Value.ref a from rx)
  obtain ⟨_,_,_,p⟩:=(show zu X.prog X.w H s.heap a (.tup xs) from I.hok a _ ea);obtain ⟨o,h1,h2,_⟩:=p;exact kia_one PySem.W.kitx_tuple I.kIn ⟨o,h1,h2⟩ e (λz=>nomatch z) h
 |@dK a kvs ea=>
  cases (show u=Value.ref a from rx)
  obtain ⟨_,_,vs,_,p⟩:=(show zu X.prog X.w H s.heap a (.dK kvs) from I.hok a _ ea);obtain ⟨o,es,ep,h1,h2,_⟩:=p;exact kia_one PySem.W.kitx_dict I.kIn ⟨o,h1,h2.1⟩ e (λz=>nomatch z) h
 |@dT a kvs ea=>
  cases (show u=Value.ref a from rx)
  obtain ⟨_,_,xs,_,o,es,ep,h1,h2,_⟩:=(show zu X.prog X.w H s.heap a (.dT kvs) from I.hok a _ ea);exact kia_one PySem.W.kitx_dict I.kIn ⟨o,h1,h2.1⟩ e (λz=>nomatch z) h
 |@ins a C dx fs ea cl ha hn htk hm=>
  cases (show u=Value.ref a from rx)
  obtain ⟨mA,O,_⟩:=Jr I.hok ea;obtain ⟨od,J,_⟩:=O.look;exact kia_one (PySem.W.kitx_own (cl.get _) cl.hd ha hn htk hm) I.kIn J e (λz=>nomatch z) h
end
end L2
namespace L2
open PySem PySem.Spec PyProof.Rows
structure Room (k:Nat) (A:Around):Prop where
 hd:A.handled=none
 dp:A.depth+3 * k+5 < recursionLimit
 un:A.units+16 * k+200 < cLine
theorem Room.mono {j k:Nat} {A:Around} (r:Room k A) (h:j<=k):Room j A:=⟨r.hd,by have:=r.dp; omega,by have:=r.un; omega⟩
theorem Room.deeper {k:Nat} {A:Around} (r:Room (k+1) A) (env:Env):Room k (A.deeper env):=
 ⟨r.hd,by have:=r.dp; show A.depth+1+3 * k+5 < _; omega,by have:=r.un; show A.units+3+16 * k+200 < _; omega⟩
theorem make_depth {A:Around} {C:Addr} {us:List Value} {kw:List (Str × Value)}:(A.under (.builtin "type.__call__" ⟨.ref C::us,kw⟩)).depth=A.depth+1:=by
 first|rfl|simp [Around.under,Code.weight,Code.isCreation,Code.isGuard,Code.isCaller,Code.frames,Code.isFrame,guardIds]
theorem make_units {A:Around} {C:Addr} {us:List Value} {kw:List (Str × Value)}:(A.under (.builtin "type.__call__" ⟨.ref C::us,kw⟩)).units=A.units+1:=by
 first|rfl|simp [Around.under,Code.cUnits,Code.frames,Code.isFrame]
theorem Room.make {k:Nat} {A:Around} (r:Room (k+1) A) (C:Addr) (us:List Value) (kw:List (Str × Value)):Room k (A.under (.builtin "type.__call__" ⟨.ref C::us,kw⟩)):=
 ⟨r.hd,by have:=r.dp; rw [make_depth]; omega,by have:=r.un; rw [make_units]; omega⟩
theorem Room.depth {k:Nat} {A:Around} (r:Room k A):A.depth < recursionLimit:=by have:=r.dp; omega
noncomputable def tNil:TA:=λ_ H Q=>Q [] H
noncomputable def Z0 (ta:TE) (tr:TA):TA:=λσ H Q=>ta σ H λx H1=>tr σ H1 λxs H2=>Q (x::xs) H2
section
variable {X:Cx} {e:Expr} {es:List Expr} {te:TE} {t:TA} {pos:Pos}
theorem zB:PA X [] tNil:=λ_ _ _ _ H Q I h=>Calls.spliced_nil ⟨[],H,I,.nil,h⟩
theorem zA (ha:PE X e te) (hr:PA X es t) (hs:starEach (e::es) X.env=(false,eval e X.env)::starEach es X.env:=by rfl):PA X (e::es) (Z0 te t):=by
 intro pos pins s σ H Q I h;rw [hs];show wpAny _ _ (spliced ((false,eval e X.env)::backTo pos (starEach es X.env))) _ _ s;refine Calls.spliced_cons (thn (ha pins s σ H _ I h) λu s1 zz=>?_)
 obtain ⟨x,H1,I1,r1,q1⟩:=zz;exact thn (hr pos pins s1 σ H1 _ I1 q1) λus s2 ⟨xs,H2,I2,r2,q2⟩=>⟨x::xs,H2,I2,.cons r1 r2,q2⟩
noncomputable def tTup (t:TA):TE:=λσ H Q=>t σ H λxs H1=>xs.length<=sizeLine/\∀ p,H1 p=none->Q (.ref p) (upd H1 p (.tup xs))
noncomputable def tLst (t:TA):TE:=λσ H Q=>t σ H λxs H1=>xs.length<=sizeLine/\∀ p,H1 p=none->Q (.ref p) (upd H1 p (.lst xs))
theorem zQ {x1} (h:PA X es t):PE X (.Tuple es x1 pos) (tTup t):=by
 intro pins s σ H Q I hq;refine wpAny_Tuple_spliced (thn (h pos pins s σ H _ I hq) λus s1 ⟨xs,H1,I1,r,z,q⟩=>⟨by rw [<- r.length]; exact z,?_⟩)
 have hf:H1 s1.heap.objs.size=none:=I1.hok.fresh (Nat.le_refl _);refine ⟨.ref s1.heap.objs.size,upd H1 s1.heap.objs.size (.tup xs),I1.laid (t':=s1.toks) (λb u e=>Heap.get?_push_of_some _ e) (Nat.le_refl _) ?_,rfl,q _ hf⟩
 exact ⟨z,us,r,⟨_,Heap.get?_push_size _ rfl,rfl,_,rfl⟩⟩
theorem yL (h:PA X es t):PE X (.List es pos) (tLst t):=by
 intro pins s σ H Q I hq;refine wpAny_List_spliced (thn (h pos pins s σ H _ I hq) λus s1 ⟨xs,H1,I1,r,z,q⟩=>⟨by rw [<- r.length]; exact z,?_⟩)
 have hf:H1 s1.heap.objs.size=none:=I1.hok.fresh (Nat.le_refl _);refine ⟨.ref s1.heap.objs.size,upd H1 s1.heap.objs.size (.lst xs),I1.laid (t':=s1.toks) (λb u e=>Heap.get?_push_of_some _ e) (Nat.le_refl _) ?_,rfl,q _ hf⟩
 exact ⟨z,us,0,r,Heap.get?_push_size _ rfl⟩
end
noncomputable abbrev Sp:=List V->Hp->VK->XK->Prop
noncomputable abbrev CXT:=List Env->Hp->Shared->XK->Value->Shared->Prop
structure Env0 (P:Program) (w:World) (K:Frag) (mg:Str->Option Value) (base:Heap) (A:Around) (outer:List Env) (s:Shared) (H:Hp):Prop where
 frames:A.frames=some outer
 mod:Mod K mg base
 bs:∀ b o,base.get? b=some o->s.heap.get? b=some o/\H b=none
 bsz:base.objs.size<=s.heap.objs.size
 funs:s.heap.FunFrames base outer
 frf:∀ b∈frs outer,H b=none
 hok:HOk P w H s.heap
 bare:AllBare s.gens
noncomputable def CE (outer:List Env) (P:Program) (w:World) (H:Hp) (s:Shared) (Q:VK) (u:Value) (s':Shared):Prop:=
 ∃ v H',s'.os=s.os/\AllBare s'.gens/\Un (frs outer) [] H H' s.heap s'.heap/\HOk P w H' s'.heap/\RelV v u/\Q v H'
noncomputable def CR (CX:CXT) (outer:List Env) (P:Program) (w:World) (H:Hp) (s:Shared) (Q:VK) (E:XK) (r:Result) (s':Shared):Prop:=
 match r with
 |.ok (.ret u)=>CE outer P w H s Q u s'
 |.ok _=>False
 |.error e=>CX outer H s E e s'
structure FnOk (P:Program) (w:World) (K:Frag) (mg:Str->Option Value) (base:Heap) (CX:CXT) (k:Nat) (f:Addr) (fd:FuncData) (ps:List Str) (sp:Sp):Prop where
 len:∀ vs H Q E,sp vs H Q E->vs.length=ps.length
 run:∀ (A:Around) (outer:List Env) (s:Shared) (H:Hp) (args:Args) (us:List Value) (vs:List V) (Q:VK) (E:XK),Room k A->Env0 P w K mg base A outer s H->BindsTo s fd args (ps.zip us)->Vals vs us->sp vs H Q E->
  codeAny (model P w) A (.call (.ref f) args) (CR CX outer P w H s Q E) s
theorem FnOk.imp {P:Program} {w:World} {K:Frag} {mg:Str->Option Value} {base:Heap} {CX:CXT} {k:Nat} {f:Addr} {fd:FuncData} {ps:List Str} {sp sp':Sp} (F:FnOk P w K mg base CX k f fd ps sp)
  (h:∀ vs H Q E,sp' vs H Q E->sp vs H Q E):FnOk P w K mg base CX k f fd ps sp':=
 ⟨λvs H Q E q=>F.len vs H Q E (h _ _ _ _ q),λA outer s H args us vs Q E hr he hb hv hs=>F.run A outer s H args us vs Q E hr he hb hv (h _ _ _ _ hs)⟩
theorem Env0.make {P:Program} {w:World} {K:Frag} {mg:Str->Option Value} {base:Heap} {A:Around} {outer:List Env} {s:Shared} {H:Hp} (e:Env0 P w K mg base A outer s H) (C:Addr) (us:List Value) (kw:List (Str × Value)) :
  Env0 P w K mg base (A.under (.builtin "type.__call__" ⟨.ref C::us,kw⟩)) outer s H:=⟨by first|exact e.frames|(simpa [Around.under,Code.envs,Code.isFrame,pushEnvs] using e.frames),e.mod,e.bs,e.bsz,e.funs,e.frf,e.hok,e.bare⟩
section
variable {X:Cx} {pins:List (Addr × Obj)} {σ:St} {H:Hp} {s s':Shared}
theorem Inv.env0 (I:Inv X pins σ H s):Env0 X.prog X.w X.K X.mg X.base X.A X.stack s H:=
 ⟨I.ok.frames,I.ok.mod,I.bs,Nat.le_trans I.ok.bsz I.sz,I.stack,I.stkFree,I.hok,I.bare⟩
theorem Inv.after {Q:VK} {u:Value} (I:Inv X pins σ H s) (h:CE X.stack X.prog X.w H s Q u s'):EP X pins σ Q u s':=by
 obtain ⟨v,H',os,bare,un,hok,r,q⟩:=h;obtain ⟨hh,g,d,t,os'⟩:=s';obtain rfl:os'=s.os:=os;exact ⟨v,H',I.call (h':=hh) (g':=g) (d':=d) (t':=t) (ch:=[]) un hok bare (λb z=>absurd z (by simp)),r,q⟩
end
noncomputable def tCall (sp:Sp) (dvs:List V) (E:XK) (t:TA):TE:=λσ H Q=>t σ H λvs H1=>sp (vs++dvs) H1 Q E
noncomputable def tMeth (C:Addr) (m:Str) (sp:Sp) (dvs:List V) (E:XK) (ta:TE) (t:TA):TE:=λσ H Q=>ta σ H λx H1=>∃ a dx fs,x=.ref a/\H1 a=some (.ins C dx fs)/\fs.lookup m=none/\
 t σ H1 λvs H2=>sp (x::(vs++dvs)) H2 Q E
noncomputable def tMake (C:Addr) (sp:Sp) (dvs:List V) (E:XK) (t:TA):TE:=λσ H Q=>t σ H λvs H1=>∀ x dx,H1 x=none->H1 dx=none->dx≠x->
 sp (.ref x::(vs++dvs)) (upd (upd H1 dx (.own x)) x (.ins C dx [])) (λv H2=>v=.non/\Q (.ref x) H2) E
noncomputable def Zn (K:Frag) (fd:FuncData) (ps:List Str) (ds:List Value):Prop:=
 ∀ (s:Shared) (us:List Value),K.In s.heap->(us++ds).length=ps.length->BindsTo s fd ⟨us,[]⟩ (ps.zip (us++ds))
theorem Zn.all {K:Frag} {fd:FuncData} {ps:List Str} (h:∀ us:List Value,us.length=ps.length->bindArgs fd ⟨us,[]⟩=pure (ps.zip us)):Zn K fd ps []:=λs us _ hl=>by
 rw [List.append_nil] at hl ⊢;exact .of_eq (h us hl)
noncomputable def jn (CX:CXT) (X:Cx) (E:XK):Prop:=∀ (pins:List (Addr × Obj)) (σ:St) (H:Hp) (s:Shared) (e:Value) (s':Shared),Inv X pins σ H s->CX X.stack H s E e s'->X.xe e s'
section
variable {X:Cx} {CX:CXT} {k:Nat} {f C:Addr} {fd:FuncData} {ps:List Str} {sp:Sp} {dvs:List V} {ds:List Value} {E:XK} {x m:Str} {p pos apos:Pos} {e o:Expr} {es:List Expr} {ta:TE} {t:TA}
theorem run_fn {pins:List (Addr × Obj)} {σ:St} {H:Hp} {s:Shared} {Q:VK} {us:List Value} {vs:List V} (F:FnOk X.prog X.w X.K X.mg X.base CX k f fd ps sp) (hr:Room k X.A) (hb:Zn X.K fd ps ds) (hd:Vals dvs ds) (hx:jn CX X E)
  (I:Inv X pins σ H s) (r:Vals vs us) (h:sp (vs++dvs) H Q E):wpAny (model X.prog X.w) X.A (call (.ref f) us) (EP X pins σ Q) X.xe s:=by
 have r2:Vals (vs++dvs) (us++ds):=r.append hd;have hl:(us++ds).length=ps.length:=by rw [<- r2.length]; exact F.len _ _ _ _ h
 refine wpAny_call (codeAny_mono (F.run X.A X.stack s H ⟨us,[]⟩ (us++ds) (vs++dvs) Q E hr I.env0 (hb s us I.kIn hl) r2 h) λr s' hq=>?_)
 cases r with
 |error e=>exact hx pins σ H s e s' I hq
 |ok fl=>
  cases fl with
  |ret u=>exact I.after hq
  |next=>exact False.elim hq
  |brk=>exact False.elim hq
  |cont=>exact False.elim hq
theorem pe_call (F:FnOk X.prog X.w X.K X.mg X.base CX k f fd ps sp) (hr:Room k X.A) (hg:Gl X x) (hm:X.mg x=some (.ref f)) (hk:keepIn X.K (.ref f)=true) (hb:Zn X.K fd ps ds) (hd:Vals dvs ds) (hx:jn CX X E)
  (ha:PA X (e::es) t) (hdb:(x == ("__debug__" : Str))=false:=by decide) (he:starEach (e::es) X.env=(false,eval e X.env)::starEach es X.env:=by rfl) (hpl:(backTo pos (starEach es X.env)).any (·.1)=false:=by rfl) :
  PE X (.Call (.Name x p) (e::es) [] pos) (tCall sp dvs E t):=by
 intro pins s σ H Q I h;refine wpAny_Call_Name_kw (ld_glob I hg hm ?_ hdb);refine callWith_K (h₀:=X.base) I.ok.mod.kin hk (thn (ha pos pins s σ H _ I h) λus s1 ⟨vs,H1,I1,r,q⟩=>⟨I1.kIn,?_⟩) he hpl
 exact run_fn F hr hb hd hx I1 r q
theorem pe_meth {pl:Sem Bool} (he:PE X o ta) (c:Cls X.K C) (hm:Meth X.K C m f) (F:FnOk X.prog X.w X.K X.mg X.base CX k f fd ps sp) (hr:Room k X.A) (hb:Zn X.K fd ps ds) (hd:Vals dvs ds) (hx:jn CX X E) (ha:PA X (e::es) t)
  (hst:starEach (e::es) X.env=(false,eval e X.env)::starEach es X.env:=by rfl) (hpl:(backTo pos (starEach es X.env)).any (·.1)=false:=by rfl)
  (ht:eval (.Call (.Attribute o m apos) (e::es) [] pos) X.env=(do
   let ov <- eval o X.env
   standAt apos.atName
   let (f,first) <- holding [ov] (getMethod ov m pl)
   callWith pos f first (backTo pos (starEach (e::es) X.env)) (backToKw pos (keywordEach [] X.env))):=by rfl) :
  PE X (.Call (.Attribute o m apos) (e::es) [] pos) (tMeth C m sp dvs E ta t):=by
 intro pins s σ H Q I h;refine PySem.W.methodCall_KW (pl:=pl) (thn (he pins s σ H _ I h) λu s1 ⟨x,H1,I1,rx,a,dx,fs,ex,ea,l,q⟩=>?_) ht
 subst ex;obtain rfl:u=Value.ref a:=rx;refine zAL I1 ea c hm l ?_;refine callWith_K (first:=[.ref a]) (h₀:=X.base) I.ok.mod.kin hm.kp (thn (ha pos pins s1 σ H1 _ I1 q) λus s2 ⟨vs,H2,I2,r,q2⟩=>⟨I2.kIn,?_⟩) hst hpl
 exact run_fn (us:=.ref a::us) (vs:=.ref a::vs) F hr hb hd hx I2 (.cons rfl r) q2
theorem pe_meth0 {pl:Sem Bool} (he:PE X o ta) (c:Cls X.K C) (hm:Meth X.K C m f) (F:FnOk X.prog X.w X.K X.mg X.base CX k f fd ps sp) (hr:Room k X.A) (hb:Zn X.K fd ps ds) (hd:Vals dvs ds) (hx:jn CX X E)
  (ht:eval (.Call (.Attribute o m apos) [] [] pos) X.env=(do
   let ov <- eval o X.env
   standAt apos.atName
   let (f,first) <- holding [ov] (getMethod ov m pl)
   callWith pos f first (backTo pos (starEach [] X.env)) (backToKw pos (keywordEach [] X.env))):=by rfl) :
  PE X (.Call (.Attribute o m apos) [] [] pos) (tMeth C m sp dvs E ta tNil):=by
 intro pins s σ H Q I h;refine PySem.W.methodCall_KW (pl:=pl) (thn (he pins s σ H _ I h) λu s1 ⟨x,H1,I1,rx,a,dx,fs,ex,ea,l,q⟩=>?_) ht
 subst ex;obtain rfl:u=Value.ref a:=rx;refine zAL I1 ea c hm l ?_;exact PySem.W.callWith_K0 (first:=[.ref a]) I1.kIn hm.kp (run_fn (us:=[.ref a]) (vs:=[.ref a]) F hr hb hd hx I1 (.cons rfl .nil) q)
structure Mk (K:Frag) (C f:Addr):Prop where
 makes:makesIn K C=true
 init:findIn K (.ref C) "__init__"=some (some (.ref f))
 fn:isFn K (.ref f)=true
 kp:keepIn K (.ref C)=true
theorem run_make {pins:List (Addr × Obj)} {σ:St} {H:Hp} {s:Shared} {Q:VK} {us:List Value} {vs:List V} (M:Mk X.K C f) (F:FnOk X.prog X.w X.K X.mg X.base CX k f fd ps sp) (hr:Room (k+1) X.A) (hb:Zn X.K fd ps ds) (hd:Vals dvs ds)
  (hx:jn CX X E) (I:Inv X pins σ H s) (r:Vals vs us)
  (h:∀ x dx,H x=none->H dx=none->dx≠x->sp (.ref x::(vs++dvs)) (upd (upd H dx (.own x)) x (.ins C dx [])) (λv H2=>v=.non/\Q (.ref x) H2) E) :
  wpAny (model X.prog X.w) X.A (call (.ref C) us) (EP X pins σ Q) X.xe s:=by
 have hq:=h (s.heap.objs.size+1) s.heap.objs.size (I.hok.fresh (Nat.le_succ _)) (I.hok.fresh (Nat.le_refl _)) (Nat.ne_of_lt (Nat.lt_succ_self _));have I2:=Inv.made (C:=C) I;have r2:Vals (V.ref (s.heap.objs.size+1)::(vs++dvs)) (Value.ref (s.heap.objs.size+1)::(us++ds)):=.cons rfl (r.append hd);have hl:(Value.ref (s.heap.objs.size+1)::us++ds).length=ps.length:=by
  have e:=r2.length;rw [F.len _ _ _ _ hq] at e;exact e.symm
 refine wpAny_call (make_map (f:=f) I.kIn M.makes M.init (beq_iff_eq.mp M.fn) (codeAny_mono (F.run _ X.stack _ _ ⟨Value.ref (s.heap.objs.size+1)::us,[]⟩ (Value.ref (s.heap.objs.size+1)::(us++ds)) _ _ E (hr.make C us [])
  (I2.env0.make C us []) (hb _ (Value.ref (s.heap.objs.size+1)::us) I2.kIn hl) r2 hq) λr s' hq'=>?_))
 cases r with
 |error e=>exact hx pins σ _ _ e s' I2 hq'
 |ok fl=>
  cases fl with
  |ret u=>
   obtain ⟨v,H',I3,rv,ev,q3⟩:=I2.after hq';subst ev;exact ⟨rv,⟨V.ref (s.heap.objs.size+1),H',I3,rfl,q3⟩⟩
  |next=>exact False.elim hq'
  |brk=>exact False.elim hq'
  |cont=>exact False.elim hq'
theorem pe_make (M:Mk X.K C f) (F:FnOk X.prog X.w X.K X.mg X.base CX k f fd ps sp) (hr:Room (k+1) X.A) (hg:Gl X x) (hm:X.mg x=some (.ref C)) (hb:Zn X.K fd ps ds) (hd:Vals dvs ds) (hx:jn CX X E)
  (ha:PA X (e::es) t) (hdb:(x == ("__debug__" : Str))=false:=by decide) (he:starEach (e::es) X.env=(false,eval e X.env)::starEach es X.env:=by rfl) (hpl:(backTo pos (starEach es X.env)).any (·.1)=false:=by rfl) :
  PE X (.Call (.Name x p) (e::es) [] pos) (tMake C sp dvs E t):=by
 intro pins s σ H Q I h;refine wpAny_Call_Name_kw (ld_glob I hg hm ?_ hdb);refine callWith_K (h₀:=X.base) I.ok.mod.kin M.kp (thn (ha pos pins s σ H _ I h) λus s1 ⟨vs,H1,I1,r,q⟩=>⟨I1.kIn,?_⟩) he hpl
 exact run_make M F hr hb hd hx I1 r q
end
section
variable {X:Cx} {CX:CXT} {k:Nat} {f C:Addr} {fd:FuncData} {ps ks:List Str} {sp:Sp} {E:XK} {x m:Str} {p pos apos kpos:Pos} {e o:Expr} {es:List Expr} {kws:List Keyword} {te ta:TE} {t tk:TA} {nm:Option Str}
variable {g:List Value->List Value->List Value} {gV:List V->List V->List V}
end
structure FnScope (N P:List Str) (sc:Scope):Prop where
 kind:sc.kind=.function:=by rfl
 co:sc.isCoroutine=false:=by rfl
 gen:sc.isGenerator=false:=by rfl
 nd:N.Nodup:=by decide+kernel
 pre:N.take P.length=P:=by rfl
 par:∀ x∈P,sc.names.lookup x=some .local\/sc.names.lookup x=some .cell:=by decide+kernel
 nofree:∀ y∈sc.names,y.2≠.free:=by decide+kernel
theorem bindL_out {kindOf:Str->Option NameKind} {x:Str}:∀ {binds:List (Str × Value)} {m:Str->Option Value},(∀ v,(x,v)∉binds)->bindL kindOf binds m x=m x
 |[],_,_=>rfl
 | (n,v)::r,m,h=>by
  unfold bindL;rw [bindL_out λw hw=>h w (List.mem_cons_of_mem _ hw)]
  split
  ·have:x≠n:=by rintro rfl; exact h v List.mem_cons_self
   simp [this]
  ·rfl
theorem bindC_out {kindOf:Str->Option NameKind} {x:Str}:∀ {binds:List (Str × Value)} {m:Str->Option Value},(∀ v,(x,v)∉binds)->bindC kindOf binds m x=m x
 |[],_,_=>rfl
 | (n,v)::r,m,h=>by
  unfold bindC;rw [bindC_out λw hw=>h w (List.mem_cons_of_mem _ hw)]
  split
  ·rfl
  ·have:x≠n:=by rintro rfl; exact h v List.mem_cons_self
   simp [this]
theorem bindL_get {kindOf:Str->Option NameKind} {x:Str} {v:Value}:∀ {P:List Str} {vs:List Value} {i:Nat} {m:Str->Option Value},P.Nodup->P[i]?=some x->vs[i]?=some v->kindOf x=some .local->
  bindL kindOf (P.zip vs) m x=some v
 |[],_,_,_,_,h,_,_=>by simp at h
 |_::_,[],_,_,_,_,h,_=>by simp at h
 |p::P,w::vs,0,m,nd,h1,h2,hk=>by
  simp at h1 h2; subst h1; subst h2;show bindL kindOf ((p,w)::P.zip vs) m p=_;unfold bindL;rw [bindL_out λv hv=>(List.nodup_cons.mp nd).1 (List.of_mem_zip hv).1,if_pos hk]
  simp
 |p::P,w::vs,i+1,m,nd,h1,h2,hk=>by
  show bindL kindOf ((p,w)::P.zip vs) m x=_;unfold bindL;exact bindL_get (i:=i) (List.nodup_cons.mp nd).2 (by simpa using h1) (by simpa using h2) hk
theorem bindC_get {kindOf:Str->Option NameKind} {x:Str} {v:Value}:∀ {P:List Str} {vs:List Value} {i:Nat} {m:Str->Option Value},P.Nodup->P[i]?=some x->vs[i]?=some v->kindOf x≠some .local->
  bindC kindOf (P.zip vs) m x=some v
 |[],_,_,_,_,h,_,_=>by simp at h
 |_::_,[],_,_,_,_,h,_=>by simp at h
 |p::P,w::vs,0,m,nd,h1,h2,hk=>by
  simp at h1 h2; subst h1; subst h2;show bindC kindOf ((p,w)::P.zip vs) m p=_;unfold bindC;rw [bindC_out λv hv=>(List.nodup_cons.mp nd).1 (List.of_mem_zip hv).1,if_neg hk]
  simp
 |p::P,w::vs,i+1,m,nd,h1,h2,hk=>by
  show bindC kindOf ((p,w)::P.zip vs) m x=_;unfold bindC;exact bindC_get (i:=i) (List.nodup_cons.mp nd).2 (by simpa using h1) (by simpa using h2) hk
noncomputable def Yj (N:List Str) (vs:List V):St:=vs.map some++List.replicate (N.length - vs.length) none
noncomputable def cxOf (CX:CXT) (P:Program) (w:World) (K:Frag) (mg:Str->Option Value) (base:Heap) (N:List Str) (qual:Str) (scope:Scope) (f:Addr) (cd:Value) (A:Around) (outer:List Env) (s:Shared) (H:Hp) (E:XK):Cx where
 prog:=P
 w:=w
 K:=K
 mg:=mg
 base:=base
 A:=A.deeper (envOfC qual scope s.heap.objs.size f cd)
 N:=N
 s₀:=s
 H₀:=H
 env:=envOfC qual scope s.heap.objs.size f cd
 outer:=outer
 stack:=envOfC qual scope s.heap.objs.size f cd::outer
 ex:=[]
 calm:=true
 fn:=λ_=>true
 pn:=[]
 xe:=λe s'=>wpAny (model P w) (A.deeper (envOfC qual scope s.heap.objs.size f cd)) (leaving (envOfC qual scope s.heap.objs.size f cd) e) (λ_ s''=>CX outer H s E e s'') (λe' s''=>CX outer H s E e' s'') s'
theorem cell_has {sc:Scope} {n:Nat} {x:Str} (h:sc.names.lookup x=some .cell):∃ c,(cellsFrom n sc.names []).lookup x=some c:=by
 have q:=PySem.W.cellsFrom_some sc.names n [] (.inl h);exact Option.isSome_iff_exists.mp q
theorem inv_start {CX:CXT} {P:Program} {w:World} {K:Frag} {mg:Str->Option Value} {base:Heap} {N ps:List Str} {qual:Str} {scope:Scope} {f:Addr} {cd:Value} {A:Around} {outer:List Env} {s s1:Shared} {H:Hp} {E:XK} {us:List Value} {vs:List V}
  (S:FnScope N ps scope) (hd:A.handled=none) (e0:Env0 P w K mg base A outer s H) (hl:vs.length=ps.length) (r:Vals vs us)
  (x:InCallC s s.heap.objs.size (bindL (envOfC qual scope s.heap.objs.size f cd).kindOf (ps.zip us) λ_=>none) (cellsFrom (s.heap.objs.size+1) scope.names []) (bindC (envOfC qual scope s.heap.objs.size f cd).kindOf (ps.zip us) λ_=>none) s1) :
  Inv (cxOf CX P w K mg base N qual scope f cd A outer s H E) [] (Yj N vs) H s1:=by
 have hpl:ps.length<=N.length:=by have:=congrArg List.length S.pre; rw [List.length_take] at this; omega
 obtain ⟨h1,tk,rfl,hk⟩:=x.done;have noA:∀ b:Addr,b∉(cxOf CX P w K mg base N qual scope f cd A outer s H E).ex:=λb z=>absurd (show b∈([]:List Addr) from z) (by simp)
 refine ⟨⟨e0.mod,S.kind,rfl,rfl,Nat.le_refl _,λy z c h1 h2=>?_,λy hy=>?_,λy c _ h=>?_,λ_=>hd,Around.frames_deeper e0.frames,.inr ⟨rfl,rfl⟩,λb z=>absurd z (noA b),e0.bs,e0.bsz,λb _ _=>noA b,λb z=>absurd z (noA b),e0.funs,e0.frf⟩,
  rfl,e0.bare,Un.kept hk,⟨_,x.toInCall.ns,λi y v h1 h2 h3=>?_⟩,λy c h=>⟨_,x.cell y c h⟩,e0.hok.fresh (Nat.le_refl _),λy c h=>?_,λp hp=>absurd (show p∈([]:List (Addr × Obj)) from hp) (by simp),e0.hok.kept hk,?_⟩
 ·exact name_of_addr x.apart (PySem.mem_of_lookup h1) (PySem.mem_of_lookup h2)
 ·have hy:scope.names.lookup y=some .cell\/scope.names.lookup y=some .free:=hy;rcases hy with hy|hy
  ·exact cell_has hy
  ·exact absurd rfl (S.nofree _ (PySem.mem_of_lookup hy))
 ·exact Nat.le_of_lt (x.above y c (PySem.mem_of_lookup h))
 ·have hi:i < vs.length:=by
   unfold Yj at h2;by_cases hi:i < vs.length
   ·exact hi
   ·rw [List.getElem?_append_right (by simpa using hi)] at h2
    rw [List.getElem?_replicate] at h2;split at h2<;>cases h2
  have ha:vs[i]?=some v:=by
   unfold Yj at h2;rw [List.getElem?_append_left (by simpa using hi),List.getElem?_map] at h2
   cases e:vs[i]? with
   |none=>rw [e] at h2; cases h2
   |some a=>rw [e] at h2; cases h2; rfl
  obtain ⟨u,hu,rv⟩:=r.get ha;have hp:ps[i]?=some y:=by
   rw [<- S.pre,List.getElem?_take_of_lt (by omega)]; exact h1
  have ndP:ps.Nodup:=by rw [<- S.pre]; exact S.nd.sublist (List.take_sublist _ _)
  refine ⟨u,rv,?_⟩;rcases S.par y (List.mem_of_getElem? hp) with k|k
  ·exact .inl ⟨k,bindL_get ndP hp hu k⟩
  ·obtain ⟨c,e⟩:=cell_has (n:=s.heap.objs.size+1) k;refine .inr ⟨.inl k,c,e,?_⟩;have q:=x.cell y c e;rw [bindC_get ndP hp hu (by show scope.names.lookup y≠_; rw [k]; decide)] at q
   exact q
 ·exact e0.hok.fresh (Nat.le_of_lt (x.above y c (PySem.mem_of_lookup h)))
 ·unfold Yj;show _=N.length;rw [List.length_append,List.length_map,List.length_replicate];omega
theorem fn_of {CX:CXT} {P:Program} {w:World} {K:Frag} {mg:Str->Option Value} {base:Heap} {k:Nat} {f:Addr} {name qual:Str} {params:Arguments} {body:List Stmt} {scope:Scope} {dV kV doc pm cdv ct oc:Value} {an od:Option Addr}
  {osl:Array (Option Value)} {N ps:List Str} {sp:Sp} (lk:K.lookup f=some ⟨oc,od,.func (fnOf name qual params body scope dV kV doc pm an cdv ct),osl⟩) (hcd:codeIn K cdv qual=true) (S:FnScope N ps scope)
  (len:∀ vs H Q E,sp vs H Q E->vs.length=ps.length)
  (hbody:∀ (A:Around) (outer:List Env) (s:Shared) (H:Hp) (vs:List V) (Q:VK) (E:XK),Room k (A.deeper (envOfC qual scope s.heap.objs.size f cdv))->sp vs H Q E->
   ∃ t,PSs (cxOf CX P w K mg base N qual scope f cdv A outer s H E) body t/\t {nx:=λ_ H'=>Q .non H',rt:=Q} (Yj N vs) H) :
  FnOk P w K mg base CX (k+1) f (fnOf name qual params body scope dV kV doc pm an cdv ct) ps sp:=by
 refine ⟨len,λA outer s H args us vs Q E hr e0 hb r hsp=>?_⟩
 have hl:=len _ _ _ _ hsp;have KX:K.In s.heap:=e0.mod.kin.keeps λb o e=>(e0.bs b o e).1
 have lim:s.heap.NoLimit:=e0.mod.nolimit.keeps λb o e=>(e0.bs b o e).1
 have hkind:∀ y∈ps.zip us,scope.names.lookup y.1=some .local\/(scope.names.lookup y.1=some .cell/\((cellsFrom (s.heap.objs.size+1) scope.names []).lookup y.1).isSome=true):=λ⟨n,v⟩ hy=>by
  rcases S.par n (List.of_mem_zip hy).1 with q|q
  ·exact .inl q
  ·exact .inr ⟨q,PySem.W.cellsFrom_some _ _ _ (.inl q)⟩
 refine codeAny_call_function hr.depth (KX _ _ lk) rfl S.co S.gen rfl (PySem.W.codeRec_of KX hcd) (hb _ _ _ _ ?_);refine wpAny_newFunctionEnv_cells S.kind hkind λenv he s1 x=>?_
 subst he;refine ⟨lim.keeps x.toInCall.keep,codeAny_func ?_⟩;obtain ⟨t,ht,hq⟩:=hbody A outer s H vs Q E (hr.deeper _) hsp;have I:Inv (cxOf CX P w K mg base N qual scope f cdv A outer s H E) [] (Yj N vs) H s1:=inv_start S hr.hd e0 hl r x;refine wpAny_mono (ht [] s1 (Yj N vs) H _ I hq) (λfl s' hs=>?_) λe s' hs=>hs
 have fin:∀ {σ':St} {H':Hp} {v:V} {u:Value},Inv (cxOf CX P w K mg base N qual scope f cdv A outer s H E) [] σ' H' s'->RelV v u->Q v H'->CE outer P w H s Q u s':=
  λ{σ' H' v u} J rv q=>⟨v,H',J.os,J.bare,J.base,J.hok,rv,q⟩
 cases fl with
 |ret u=>
  obtain ⟨v,σ',H',J,rv,q⟩:=hs;exact fin J rv q
 |next=>
  obtain ⟨σ',H',J,q⟩:=hs;exact fin (v:=V.non) (u:=Value.none) J rfl q
 |brk=>
  obtain ⟨_,_,_,q⟩:=hs;exact False.elim q
 |cont=>
  obtain ⟨_,_,_,q⟩:=hs;exact False.elim q
end L2
namespace L2
open PySem PySem.Spec PyProof.Rows
section
variable {X:Cx} {x:Str} {p pos:Pos} {e:Expr} {es:List Expr} {t:TA} {id T:String} {r:List V->Hp->VK->Prop}
noncomputable def tCB (r:List V->Hp->VK->Prop) (t:TA):TE:=λσ H Q=>t σ H λvs H1=>r vs H1 Q
theorem zY (hc:jB X (.builtin id) r) (hg:Gl X x) (hm:X.mg x=none) (hv:bootBuiltins x=some (.builtin id)) (ha:PA X (e::es) t) (hn:x≠"__name__":=by decide) (hdb:(x == ("__debug__" : Str))=false:=by decide)
  (he:starEach (e::es) X.env=(false,eval e X.env)::starEach es X.env:=by rfl) (hpl:(backTo pos (starEach es X.env)).any (·.1)=false:=by rfl):PE X (.Call (.Name x p) (e::es) [] pos) (tCB r t):=by
 intro pins s σ H Q I h;refine wpAny_Call_Name_kw (Ya I hg hm hv ?_ hn hdb);exact PyProof.Rows.callWith_builtin1 (thn (ha pos pins s σ H _ I h) λus s1 ⟨vs,H1,I1,r1,q1⟩=>hc pins s1 σ H1 vs us Q I1 r1 q1) he hpl
theorem jZ (hc:jB X (.type T) r) (hg:Gl X x) (hm:X.mg x=none) (hv:bootBuiltins x=some (.type T)) (ha:PA X (e::es) t) (hn:x≠"__name__":=by decide) (hdb:(x == ("__debug__" : Str))=false:=by decide)
  (he:starEach (e::es) X.env=(false,eval e X.env)::starEach es X.env:=by rfl) (hpl:(backTo pos (starEach es X.env)).any (·.1)=false:=by rfl):PE X (.Call (.Name x p) (e::es) [] pos) (tCB r t):=by
 intro pins s σ H Q I h;refine wpAny_Call_Name_kw (Ya I hg hm hv ?_ hn hdb);exact PyProof.Rows.callWith_type1 (thn (ha pos pins s σ H _ I h) λus s1 ⟨vs,H1,I1,r1,q1⟩=>hc pins s1 σ H1 vs us Q I1 r1 q1) he hpl
end
end L2
namespace HT
open PySem PyProof.Rows
section
open PySem.SeqAt
open PySem.AutoSeq1 (wpAny_loadPart')
open PySem.MeetsSeq PySem.MeetsSeq2 PySem.MeetsSeq3
end
section
variable {prog:Program} {w:World} {A:Around} {E:Value->Shared->Prop} {s:Shared}
theorem cat_tup {t b:Addr} {vs ws:List Value} {Q:Value->Shared->Prop} (ht:IsTup s.heap t vs.toArray) (hb:IsTup s.heap b ws.toArray) (hv:vs≠[])
  (h1:ws=[]->Q (.ref t) s) (h2:ws≠[]->Q (.ref s.heap.objs.size) {s with heap:=s.heap.push {cls:=.type "tuple",data:=.seq (vs++ws).toArray}})
  (hsz:vs.length+ws.length<=sizeLine):wpAny (model prog w) A (binaryOp .Add (.ref t) (.ref b)) Q E s:=by
 obtain ⟨⟨cls,dd,data,sl⟩,ho,hc,n,hd⟩:=id ht;obtain ⟨⟨oC,mX,data2,hU⟩,ho2,hc2,n2,fQ⟩:=id hb;simp only at hc hd hc2 fQ;subst hc hd hc2 fQ;have e:vs.toArray++ws.toArray=(vs++ws).toArray:=by simp
 by_cases hw:ws=[]
 ·exact concat_meets ⟨_,ho,rfl⟩ ⟨_,ho2,rfl⟩ noFill_tuple_add seq_tuple_add PySem.F.slot_tuple_add PySem.F.entry_tuple_add (PySem.F.args_tuple_add_2 _ _)
   (tuple_addW1 t b vs.toArray ws.toArray n n2 dd mX sl hU (by simpa using hv) (by simp [hw])) ⟨ho,ho2,h1 hw⟩
 ·refine concat_meets ⟨_,ho,rfl⟩ ⟨_,ho2,rfl⟩ noFill_tuple_add seq_tuple_add PySem.F.slot_tuple_add PySem.F.entry_tuple_add (PySem.F.args_tuple_add_2 _ _)
   (tuple_addW2 t b vs.toArray ws.toArray n n2 dd mX sl hU (by simpa using hv) (by simpa using hw) (by rw [List.size_toArray,List.size_toArray]; exact hsz)) ⟨ho,ho2,?_⟩
  rw [e];exact h2 hw
noncomputable def sIx (n d:Nat):Option Int->Nat
 |none=>d
 |some v=>if v < 0 then (v+(n:Int)).toNat else min v.toNat n
theorem sIx_nat (n d k:Nat):sIx n d (some (k:Int))=min k n:=by
 show (if (k:Int) < 0 then ((k:Int)+(n:Int)).toNat else min (k:Int).toNat n)=min k n
 rw [if_neg (by omega),Int.toNat_natCast]
theorem sIx_le (n d:Nat) (hd:d<=n) (o:Option Int):sIx n d o<=n:=by
 cases o with
 |none=>exact hd
 |some v=>
  show (if v < 0 then (v+(n:Int)).toNat else min v.toNat n)<=n
  by_cases hv:v < 0
  ·rw [if_pos hv]; omega
  ·rw [if_neg hv]; exact Nat.min_le_right _ _
theorem clip_eq (v:Int) (n d:Nat):(if v < 0 then max (v+(n:Int)) 0 else min v (n:Int))=((sIx n d (some v):Nat):Int):=by
 show (if v < 0 then max (v+(n:Int)) 0 else min v (n:Int))=(((if v < 0 then (v+(n:Int)).toNat else min v.toNat n):Nat):Int)
 by_cases hv:v < 0
 ·simp only [if_pos hv]; omega
 ·simp only [if_neg hv]; omega
theorem adjust_gen (lo hi:Option Int) (n:Nat):Builtin.Slice.sliceAdjust lo hi 1 (n:Int)=(((sIx n 0 lo:Nat):Int),((sIx n n hi:Nat):Int)):=by
 have h1:¬ ((1:Int) < 0):=by omega
 unfold Builtin.Slice.sliceAdjust;simp only [h1,if_false];refine Prod.ext ?_ ?_
 ·cases lo with
  |none=>rfl
  |some v=>exact clip_eq v n 0
 ·cases hi with
  |none=>rfl
  |some v=>exact clip_eq v n n
theorem places_gen (i j:Nat):Builtin.Slice.slicePlaces (i:Int) (j:Int) 1=j - i:=by
 unfold Builtin.Slice.slicePlaces;have h1:(1:Int) > 0:=by omega
 simp only [h1,if_true,Int.ediv_one];split<;>omega
theorem zAM {v:Value} {o:Option Int} {Q:Option Int->Shared->Prop} (p:IsPart v o) (h:Q o s):wpAny (model prog w) A (Builtin.Slice.slicePartIndex v) Q E s:=by
 cases p with
 |none=>exact slicePart_none h
 |int i t=>exact slicePart_int h
theorem sliceApplied_gen {sl:Addr} {vl vu:Value} {lo hi:Option Int} {n:Nat} {Q:Int × Int × Nat->Shared->Prop} (hs:s.heap.IsSliceOf sl vl vu .none) (pl:IsPart vl lo) (pu:IsPart vu hi)
  (h:Q (((sIx n 0 lo:Nat):Int),1,sIx n n hi - sIx n 0 lo) s):wpAny (model prog w) A (Builtin.Slice.sliceApplied (.ref sl) (pure (n:Int))) Q E s:=by
 obtain ⟨os,hos,hcs,hds⟩:=id hs;unfold Builtin.Slice.sliceApplied Builtin.Slice.sliceFields;refine wpAny_bind (wpAny_bind (wpAny_field hos hds (x:=vl) rfl (wpAny_bind (wpAny_field hos hds (x:=vu) rfl (wpAny_bind (wpAny_field hos hds (x:=.none) rfl (wpAny_pure ?_)))))));refine wpAny_bind (slicePart_none ?_);show wpAny _ _ (if ((1:Int) == 0)=true then _ else _) _ _ s
 rw [if_neg (by decide)]
 refine wpAny_bind (zAM pl (wpAny_bind (zAM pu (wpAny_bind (wpAny_pure ?_)))));show wpAny _ _ (match Builtin.Slice.sliceAdjust lo hi 1 (n:Int) with|(lo,hi)=>pure (lo,(1:Int),Builtin.Slice.slicePlaces lo hi 1)) _ _ s
 rw [adjust_gen lo hi n];show wpAny _ _ (pure (((sIx n 0 lo:Nat):Int),(1:Int),Builtin.Slice.slicePlaces ((sIx n 0 lo:Nat):Int) ((sIx n n hi:Nat):Int) 1)) _ _ s;rw [places_gen];exact wpAny_pure h
theorem pick_gen (xs:Array Value) (i k:Nat):((List.range k).filterMap λ(m:Nat)=>xs[((i:Int)+(m:Int) * 1).toNat]?).toArray=((xs.toList.drop i).take k).toArray:=by
 have e:(λ(m:Nat)=>xs[((i:Int)+(m:Int) * 1).toNat]?)=λm=>xs[i+m]?:=by
  funext m
  have:((i:Int)+(m:Int) * 1).toNat=i+m:=by omega
  rw [this]
 rw [e];have:=pick_run xs i k;rw [List.filterMap_map] at this;have e2:((λx=>xs[x]?) ∘ λx=>i+x)=λm=>xs[i+m]?:=rfl
 rw [e2] at this;rw [this]
theorem getItem_tuple_cut {t sl:Addr} {items:Array Value} {vl vu:Value} {lo hi:Option Int} {Q:Value->Shared->Prop} (ht:IsTup s.heap t items) (hs:s.heap.IsSliceOf sl vl vu .none) (pl:IsPart vl lo) (pu:IsPart vu hi)
  (hw:¬ (sIx items.size 0 lo=0/\sIx items.size items.size hi=items.size))
  (h:Q (.ref s.heap.objs.size) {s with heap:=s.heap.push {cls:=.type "tuple",data:=.seq ((items.toList.drop (sIx items.size 0 lo)).take (sIx items.size items.size hi - sIx items.size 0 lo)).toArray}})
  (hsz:items.size<=sizeLine):wpAny (model prog w) A (getItem (.ref t) (.ref sl)) Q E s:=by
 have htake:sizeOk (.seq ((items.toList.drop (sIx items.size 0 lo)).take (sIx items.size items.size hi - sIx items.size 0 lo)).toArray):=by
  show ((items.toList.drop (sIx items.size 0 lo)).take (sIx items.size items.size hi - sIx items.size 0 lo)).toArray.size<=sizeLine;rw [List.size_toArray,List.length_take,List.length_drop,Array.length_toList];omega
 have hj:sIx items.size items.size hi<=items.size:=sIx_le _ _ (Nat.le_refl _) hi;obtain ⟨os,hos,hcs,hds⟩:=id hs;have hTs:s.TypeIs (.ref sl) "slice":=⟨os,hos,hcs⟩;unfold getItem
 try with_reducible refine wpAny_holding ?_
 first|refine wpAny_bind (wpAny_pure ?_)|skip
 refine wpAny_bind (wpAny_sequenceKey ht.typeIs (by decide) ?_)
 refine wpAny_bind (wpAny_callSpecial?_slot (name:=Str.ofString "__getitem__") ht.typeIs PyProof.Rows.slot_tuple_getitem
  (wpAny_call_entry PyProof.Rows.slot_tuple_getitem ht.typeIs entry_tuple_getitem ?_ (args_tuple_getitem _ _)))
 show wpAny _ _ (Builtin.Tuple.tupleItemsOf (.ref t) >>= _) _ _ s;refine wpAny_bind (tupleItemsOf_ ht ?_);refine wpAny_bind (wpAny_typeOf hTs ?_);rw [if_pos (by decide)]
 refine wpAny_bind (sliceApplied_gen hs pl pu ?_);have hno:¬ ((((sIx items.size 0 lo:Nat):Int) == 0 && (1:Int) == 1 && (sIx items.size items.size hi - sIx items.size 0 lo) == items.size)=true):=by
  intro q;rw [Bool.and_eq_true,Bool.and_eq_true] at q;have q1:((sIx items.size 0 lo:Nat):Int)=0:=eq_of_beq q.1.1;have q2:sIx items.size items.size hi - sIx items.size 0 lo=items.size:=eq_of_beq q.2;exact hw ⟨by omega,by omega⟩
 show wpAny _ _ (if (((sIx items.size 0 lo:Nat):Int) == 0 && (1:Int) == 1 && (sIx items.size items.size hi - sIx items.size 0 lo) == items.size)=true then _ else _) _ _ s
 rw [if_neg hno,pick_gen]
 first
  |exact wpAny_bind (m:=Builtin.Tuple.tupleExact _) (wpAny_newObj_type (wpAny_pure ⟨_,rfl,wpAny_pure h⟩) htake)
  |exact wpAny_bind (m:=Builtin.Tuple.tupleExact _) (wpAny_newObj_type (wpAny_bind (wpAny_pure (wpAny_pure ⟨_,rfl,wpAny_pure h⟩))) htake)
  |exact wpAny_bind (wpAny_bind (m:=Builtin.Tuple.tupleExact _) (wpAny_newObj_type (wpAny_pure (wpAny_pure ⟨_,rfl,wpAny_pure h⟩)) htake))
  |exact wpAny_bind (wpAny_bind (m:=Builtin.Tuple.tupleExact _) (wpAny_newObj_type (wpAny_pure ⟨_,rfl,wpAny_pure h⟩) htake))
end
end HT
namespace L2
open PySem PySem.Spec PyProof.Rows
noncomputable abbrev TO:=St->Hp->(Option Int->Hp->Prop)->Prop
noncomputable def PO (X:Cx) (e:Option Expr) (t:TO):Prop:=
 ∀ (pins:List (Addr × Obj)) (s:Shared) (σ:St) (H:Hp) (Q:Option Int->Hp->Prop),Inv X pins σ H s->t σ H Q->
  wpAny (model X.prog X.w) X.A (evalPart e X.env) (λu s'=>∃ o H',Inv X pins σ H' s'/\IsPart u o/\Q o H') X.xe s
noncomputable def tNoPart:TO:=λ_ H Q=>Q none H
noncomputable def tPart (t:TE):TO:=λσ H Q=>t σ H λx H1=>∃ i,x=.int i/\Q (some i) H1
section
variable {X:Cx} {e:Expr} {te:TE} {lo hi:Option Expr} {tl th:TO} {pos p2:Pos}
theorem po_none:PO X none tNoPart:=by
 intro pins s σ H Q I h;rw [evalPart_none];exact wpAny_pure ⟨none,H,I,.none,h⟩
theorem Yw (h:PE X e te):PO X (some e) (tPart te):=by
 intro pins s σ H Q I hw;rw [evalPart_some];refine thn (h pins s σ H _ I hw) λu s1 zz=>?_
 obtain ⟨x,H1,I1,r1,q1⟩:=zz;obtain ⟨i,rfl,q⟩:=q1;obtain ⟨t,rfl⟩:=r1;exact ⟨some i,H1,I1,.int i t,q⟩
noncomputable def SlR (X:Cx) (r:V->Option Int->Option Int->Hp->VK->Prop):Prop:=
 ∀ (pins:List (Addr × Obj)) (s:Shared) (σ:St) (H:Hp) (x:V) (v vl vu:Value) (lo hi:Option Int) (sl:Addr) (Q:VK),Inv X pins σ H s->RelV x v->s.heap.IsSliceOf sl vl vu .none->IsPart vl lo->IsPart vu hi->r x lo hi H Q->
  ∃ T id,typeLookup (.type T) "__getitem__"=pure (some (.builtin id))/\s.TypeIs v T/\wpAny (model X.prog X.w) X.A (getItem v (.ref sl)) (EP X pins σ Q) X.xe s
noncomputable def tSl (r:V->Option Int->Option Int->Hp->VK->Prop) (te:TE) (tl th:TO):TE:=λσ H Q=>te σ H λx H1=>tl σ H1 λl H2=>th σ H2 λu H3=>r x l u H3 Q
theorem Y9 {r:V->Option Int->Option Int->Hp->VK->Prop} (hr:SlR X r) (he:PE X e te) (hl:PO X lo tl) (hu:PO X hi th):PE X (.Subscript e (.Slice lo hi none p2) pos) (tSl r te tl th):=by
 intro pins s σ H Q I h;refine Subscript_ (thn (he pins s σ H _ I h) λv s1 zz=>?_)
 obtain ⟨x,H1,I1,r1,q1⟩:=zz;refine wpAny_Slice (thn (hl pins s1 σ H1 _ I1 q1) λvl s2 ⟨l,H2,I2,pl,q2⟩=>thn (hu pins s2 σ H2 _ I2 q2) λvu s3 zz=>?_)
 obtain ⟨u,H3,I3,pu,q3⟩:=zz;rw [evalPart_none];refine wpAny_pure ?_;have I4:Inv X pins σ H3 {s3 with heap:=s3.heap.push {cls:=.type "slice",data:=.fields #[vl,vu,.none]}}:=I3.kept (t':=s3.toks) λb ob q=>Heap.get?_push_of_some _ q
 obtain ⟨T,id,hT,ht,hg⟩:=hr pins {s3 with heap:=s3.heap.push {cls:=.type "slice",data:=.fields #[vl,vu,.none]}} σ H3 x v vl vu l u s3.heap.objs.size Q I4 r1 (Heap.IsSliceOf.new ..) pl pu q3
 show wpAny (model X.prog X.w) X.A (subscriptTail e (.Slice lo hi none p2) v (.ref s3.heap.objs.size)) (EP X pins σ Q) X.xe {s3 with heap:=s3.heap.push {cls:=.type "slice",data:=.fields #[vl,vu,.none]}}
 exact tail_any (ops:=[.ref s3.heap.objs.size,v]) ht hT hg (by with_unfolding_all rfl)
noncomputable def cutV (xs:List V) (lo hi:Option Int):List V:=(xs.drop (HT.sIx xs.length 0 lo)).take (HT.sIx xs.length xs.length hi - HT.sIx xs.length 0 lo)
theorem cutV_length (xs:List V) (lo hi:Option Int):(cutV xs lo hi).length<=xs.length:=by
 unfold cutV;rw [List.length_take,List.length_drop];omega
noncomputable def rSlT (K:Frag):V->Option Int->Option Int->Hp->VK->Prop:=λx lo hi H Q=>∃ a xs,x=.ref a/\SqT K H a xs/\
 ¬ (HT.sIx xs.length 0 lo=0/\HT.sIx xs.length xs.length hi=xs.length)/\∀ p,H p=none->Q (.ref p) (upd H p (.tup (cutV xs lo hi)))
theorem sl_tup:SlR X (rSlT X.K):=by
 intro pins s σ H x v vl vu lo hi sl Q I rx hs pl pu h;obtain ⟨a,xs,rfl,hx,hw,q⟩:=h;cases rx
 obtain ⟨its,r,ht,hz⟩:=I.tuple hx;have hlen:its.toArray.size=xs.length:=by rw [List.size_toArray]; exact r.length.symm
 refine ⟨"tuple",_,PyProof.Rows.slot_tuple_getitem.lookup,ht.typeIs,?_⟩;refine HT.getItem_tuple_cut ht hs pl pu (by rw [hlen]; exact hw) ?_ (by rw [hlen]; exact hz)
 rw [hlen];refine ⟨.ref s.heap.objs.size,_,I.laid (t':=s.toks) (o:=.tup (cutV xs lo hi)) (λb ob q=>Heap.get?_push_of_some _ q) (Nat.le_refl _) ?_,rfl,q _ (I.hok.fresh (Nat.le_refl _))⟩
 exact ⟨Nat.le_trans (cutV_length xs lo hi) hz,_,(r.drop (HT.sIx xs.length 0 lo)).take (HT.sIx xs.length xs.length hi - HT.sIx xs.length 0 lo),IsTup.new _ _⟩
noncomputable def rCatT (K:Frag):R2:=λx y H Q=>∃ a b xs ys,x=.ref a/\y=.ref b/\SqT K H a xs/\SqT K H b ys/\xs≠[]/\xs.length+ys.length<=sizeLine/\
 (ys=[]->Q (.ref a) H)/\(ys≠[]->∀ p,H p=none->Q (.ref p) (upd H p (.tup (xs++ys))))
theorem Vals.nil_iff {xs:List V} {us:List Value} (r:Vals xs us):us=[]↔xs=[]:=by
 cases r with
 |nil=>simp
 |cons _ _=>simp
theorem op_catT:OpR X (binaryOp .Add) (rCatT X.K):=by
 intro pins s σ H x y v u Q I rx ry h;obtain ⟨a,b,xs,ys,rfl,rfl,ha,hb,hx,hz,q1,q2⟩:=h;cases rx
 cases ry
 obtain ⟨its,r1,p1,_⟩:=I.tuple ha;obtain ⟨aM,r2,p2,_⟩:=I.tuple hb;refine HT.cat_tup p1 p2 (λz=>hx (r1.nil_iff.mp z)) (λz=>⟨.ref a,H,I,rfl,q1 (r2.nil_iff.mp z)⟩) (λz=>?_) (by rw [<- r1.length,<- r2.length]; exact hz)
 refine ⟨.ref s.heap.objs.size,_,I.laid (t':=s.toks) (o:=.tup (xs++ys)) (λb ob q=>Heap.get?_push_of_some _ q) (Nat.le_refl _) ?_,rfl,q2 (λw=>z (r2.nil_iff.mpr w)) _ (I.hok.fresh (Nat.le_refl _))⟩
 exact ⟨by rw [List.length_append]; exact hz,_,r1.append r2,IsTup.new _ _⟩
end
end L2
namespace L2
open PySem PySem.Spec PyProof.Rows
noncomputable def ixN (n:Nat) (i:Int):Option Nat:=if 0<=i then (if i < n then some i.toNat else none) else if -(n:Int)<=i then some (i+n).toNat else none
noncomputable def atI {α:Type} (xs:List α) (i:Int):Option α:=(ixN xs.length i).bind λj=>xs[j]?
theorem ixN_seq {n:Nat} {i:Int} {j:Nat} (h:ixN n i=some j):seqIndex? i n=some j/\j < n/\-(n:Int)<=i/\i < n:=by
 unfold ixN at h;by_cases h0:0<=i
 ·rw [if_pos h0] at h;by_cases h1:i < n
  ·rw [if_pos h1] at h;have e:i.toNat=j:=Option.some.inj h;exact ⟨by rw [seqIndex_of h0 h1,e],by omega,by omega,h1⟩
  ·rw [if_neg h1] at h; cases h
 ·rw [if_neg h0] at h;by_cases h1:-(n:Int)<=i
  ·rw [if_pos h1] at h;have e:(i+n).toNat=j:=Option.some.inj h;exact ⟨by rw [seqIndex_neg (by omega) h1,e],by omega,h1,by omega⟩
  ·rw [if_neg h1] at h; cases h
theorem atI_get {α:Type} {xs:List α} {i:Int} {v:α} (h:atI xs i=some v):∃ j,seqIndex? i xs.length=some j/\xs[j]?=some v/\j < xs.length/\-(xs.length:Int)<=i/\i < xs.length:=by
 unfold atI at h;cases e:ixN xs.length i with
 |none=>rw [e] at h; cases h
 |some j=>
  rw [e] at h;obtain ⟨h1,h2,h3,h4⟩:=ixN_seq e;exact ⟨j,h1,h,h2,h3,h4⟩
theorem yA {α:Type} {xs:List α} {j:Nat} {v:α} (h:xs[j]?=some v):atI xs (j:Int)=some v:=by
 have hj:j < xs.length:=(List.getElem?_eq_some_iff.mp h).1;have e:ixN xs.length (j:Int)=some j:=by
  unfold ixN;rw [if_pos (by omega),if_pos (by omega)]; simp
 unfold atI; rw [e]; exact h
noncomputable def PlainIx (b:Expr):Prop:=∀ o i,subscripted b false o i=operate [o,i] (getItem o i)
noncomputable def IxR (X:Cx) (r:R2):Prop:=
 ∀ (value slice:Expr) (pins:List (Addr × Obj)) (s:Shared) (σ:St) (H:Hp) (x y:V) (v u:Value) (Q:VK),Inv X pins σ H s->RelV x v->RelV y u->r x y H Q->
  subscripted slice false v u=operate [v,u] (getItem v u)->wpAny (model X.prog X.w) X.A (subscriptTail value slice v u) (EP X pins σ Q) X.xe s
noncomputable def MtR (X:Cx) (id:String) (r:V->List V->Hp->VK->Prop):Prop:=
 ∀ (pins:List (Addr × Obj)) (s:Shared) (σ:St) (H:Hp) (x:V) (xs:List V) (v:Value) (us:List Value) (Q:VK),Inv X pins σ H s->RelV x v->Vals xs us->r x xs H Q->
  wpAny (model X.prog X.w) X.A (call (.builtin id) (v::us)) (EP X pins σ Q) X.xe s
section
variable {X:Cx} {a b:Expr} {ta tb:TE} {pos:Pos}
theorem zH {r:R2} (hr:IxR X r) (ha:PE X a ta) (hb:PE X b tb) (hs:PlainIx b):PE X (.Subscript a b pos) (tOp r ta tb):=by
 intro pins s σ H Q I h;exact Subscript_ (binT ha hb I h λv u s2 x y H2 I2 rx ry q=>hr a b pins s2 σ H2 x y v u Q I2 rx ry q (hs _ _))
noncomputable def rIxL (K:Frag):R2:=λx y H Q=>∃ p xs i v,x=.ref p/\y=.int i/\SqL K H p xs/\atI xs i=some v/\Q v H
noncomputable def rIxT (K:Frag):R2:=λx y H Q=>∃ p xs i v,x=.ref p/\y=.int i/\SqT K H p xs/\atI xs i=some v/\Q v H
theorem ix_list:IxR X (rIxL X.K):=by
 intro value slice pins s σ H x y v u Q I rx ry h hs;obtain ⟨p,xs,i,z,rfl,rfl,hq,he,q⟩:=h;cases rx
 obtain ⟨t,rfl⟩:=ry;obtain ⟨its,r,pl,hz⟩:=I.list hq;obtain ⟨j,h1,h2,h3,h4,h5⟩:=atI_get he;obtain ⟨w,ew,rw'⟩:=r.get h2;have hl:=r.length;have hn:=line63;have fin:EP X pins σ Q w s:=⟨z,H,I,rw',q⟩;by_cases h0:0<=i
 ·have hj:i.toNat=j:=by
   rw [seqIndex_of h0 h5] at h1;exact Option.some.inj h1
  exact item_listR pl.isList h0 (by omega) (by rw [hj]; simpa using ew) fin hs
 ·have hj:(i+(its.toArray.size:Int)).toNat=j:=by
   rw [seqIndex_neg (by omega) h4] at h1
   rw [List.size_toArray,<- hl];exact Option.some.inj h1
  exact subscriptTail_builtinR (x:=w) pl.isList.typeIs slot_list_getitem.lookup
   (wpAny_getItem_list_neg (Q:=λr s'=>r=w/\EP X pins σ Q r s') pl.isList (by omega) (by rw [List.size_toArray]<;>omega) (by omega) (by rw [hj]; simpa using ew) ⟨rfl,fin⟩) hs
theorem ix_tup:IxR X (rIxT X.K):=by
 intro value slice pins s σ H x y v u Q I rx ry h hs;obtain ⟨p,xs,i,z,rfl,rfl,hq,he,q⟩:=h;cases rx
 obtain ⟨t,rfl⟩:=ry;obtain ⟨its,r,pl,hz⟩:=I.tuple hq;obtain ⟨j,h1,h2,h3,h4,h5⟩:=atI_get he;obtain ⟨w,ew,rw'⟩:=r.get h2;have hl:=r.length;have hn:=line63;have fin:EP X pins σ Q w s:=⟨z,H,I,rw',q⟩;exact subscriptTail_builtinR (x:=w) pl.typeIs slot_tuple_getitem.lookup
  (getItem_tuple (j:=j) (Q:=λr s'=>r=w/\EP X pins σ Q r s') pl (by omega) (by omega) (by rw [List.size_toArray,<- hl]; exact h1) (by simpa using ew) ⟨rfl,fin⟩) hs
theorem mapSeq_set (its:List Value) (n j:Nat) (u:Value):Obj.mapSeq (·.setIfInBounds j u) {cls:=.type "list",data:=.seq its.toArray n}={cls:=.type "list",data:=.seq (its.set j u).toArray n}:=by
 simp [Obj.mapSeq]
theorem Inv.lst {pins:List (Addr × Obj)} {σ:St} {H:Hp} {s:Shared} {p:Addr} {xs:List V} (I:Inv X pins σ H s) (h:H p=some (.lst xs)) :
  ∃ (its:List Value) (n:Nat),Vals xs its/\s.heap.get? p=some {cls:=.type "list",data:=.seq its.toArray n}/\xs.length<=sizeLine:=by
 obtain ⟨z,its,n,r,e⟩:=I.hok p _ h;exact ⟨its,n,r,e,z⟩
theorem Inv.lstUpd {pins:List (Addr × Obj)} {σ:St} {H:Hp} {s:Shared} {p:Addr} {xs ys:List V} {its its':List Value} {n n':Nat} {f:Obj->Obj} (I:Inv X pins σ H s) (h:H p=some (.lst xs))
  (ho:s.heap.get? p=some {cls:=.type "list",data:=.seq its.toArray n}) (hf:f {cls:=.type "list",data:=.seq its.toArray n}={cls:=.type "list",data:=.seq its'.toArray n'}) (r:Vals ys its') (hz:ys.length<=sizeLine) (t:Nat) :
  Inv X pins σ (upd H p (.lst ys)) {s with heap:=s.heap.update p f,toks:=t}:=by
 have e:(s.heap.update p f).get? p=some {cls:=.type "list",data:=.seq its'.toArray n'}:=by
  rw [Heap.get?_update_self f ho (by rw [hf]<;>rfl),hf]
 refine I.write (x:=p) (e:=p) (by rw [h]; trivial) (.inl rfl) (λb u hb q=>(Heap.get?_update_other _ _ (Ne.symm hb)).trans q) ⟨_,e⟩ ?_
 exact ⟨hz,its',n',r,e⟩
noncomputable def rSetL:V->V->V->Hp->(Hp->Prop)->Prop:=λo i v H Q=>∃ p xs k j,o=.ref p/\i=.int k/\H p=some (.lst xs)/\ixN xs.length k=some j/\Q (upd H p (.lst (xs.set j v)))
theorem YA:PSet X rSetL:=by
 intro pins s σ H o i v ov iv u Q I ro ri rv h;obtain ⟨p,xs,k,j,rfl,rfl,hp,hj,q⟩:=h;cases ro
 obtain ⟨t,rfl⟩:=ri;obtain ⟨its,n,r,ho,hz⟩:=I.lst hp;obtain ⟨h1,h2,h3,h4⟩:=ixN_seq hj;have hl:=r.length;have hn:=line63;have I':Inv X pins σ (upd H p (.lst (xs.set j v))) {s with heap:=s.heap.update p (Obj.mapSeq (·.setIfInBounds j u))}:=
  I.lstUpd hp ho (mapSeq_set its n j u) (r.set rv j) (by rw [List.length_set]; exact hz) s.toks
 by_cases h0:0<=k
 ·have hk:k.toNat=j:=by
   rw [seqIndex_of h0 h4] at h1;exact Option.some.inj h1
  exact PySem.W.ki_setAt ho h0 (by omega) (by rw [List.size_toArray,<- hl]; exact h4) (by rw [hk]; exact ⟨_,I',q⟩)
 ·have hk:(k+(its.toArray.size:Int)).toNat=j:=by
   rw [seqIndex_neg (by omega) h3] at h1
   rw [List.size_toArray,<- hl];exact Option.some.inj h1
  exact PySem.W.ki_setBack ho (by omega) (by rw [List.size_toArray,<- hl]; exact h3) (by omega) (by rw [hk]; exact ⟨_,I',q⟩)
noncomputable def Yp:V->Bool
 |.non=>true
 |.bl _=>true
 |.int _=>true
 |.str _=>true
 |_=>false
noncomputable def eqV:V->V->Bool
 |.non,.non=>true
 |.bl a,.bl b=>a == b
 |.bl a,.int b=>(if a then 1 else 0) == b
 |.int a,.bl b=>a == (if b then 1 else 0)
 |.int a,.int b=>a == b
 |.str a,.str b=>a == b
 |_,_=>false
theorem eqAt_V {A:Around} {s:Shared} {y x:V} {u v:Value} (ry:RelV y u) (rx:RelV x v) (fy:Yp y=true) (fx:Yp x=true):SeqAt.EqAt A s u v (eqV y x):=by
 cases y with
 |non=>
  cases ry
  cases x with
  |non=>cases rx; exact SeqAt.EqAt.same _
  |bl b=>cases rx; exact SeqAt.EqAt.none_bool b
  |int b=>obtain ⟨t,rfl⟩:=rx; exact SeqAt.EqAt.none_int b t
  |str b=>obtain ⟨t,rfl⟩:=rx; exact SeqAt.EqAt.none_str b t
  |_=>exact absurd (show false=true from fx) Bool.false_ne_true
 |bl a=>
  cases ry
  cases x with
  |non=>cases rx; exact SeqAt.EqAt.bool_none a
  |bl b=>cases rx; exact SeqAt.EqAt.bool_bool a b
  |int b=>obtain ⟨t,rfl⟩:=rx; exact SeqAt.EqAt.bool_int a b t
  |str b=>obtain ⟨t,rfl⟩:=rx; exact SeqAt.EqAt.bool_str a b t
  |_=>exact absurd (show false=true from fx) Bool.false_ne_true
 |int a=>
  obtain ⟨t',rfl⟩:=ry;cases x with
  |non=>cases rx; exact SeqAt.EqAt.int_none a t'
  |bl b=>cases rx; exact SeqAt.EqAt.int_bool a t' b
  |int b=>obtain ⟨t,rfl⟩:=rx; exact SeqAt.EqAt.int_int a t' b t
  |str b=>obtain ⟨t,rfl⟩:=rx; exact SeqAt.EqAt.int_str a t' b t
  |_=>exact absurd (show false=true from fx) Bool.false_ne_true
 |str a=>
  obtain ⟨t',rfl⟩:=ry;cases x with
  |non=>cases rx; exact SeqAt.EqAt.str_none a t'
  |bl b=>cases rx; exact SeqAt.EqAt.str_bool a t' b
  |int b=>obtain ⟨t,rfl⟩:=rx; exact SeqAt.EqAt.str_int a t' b t
  |str b=>obtain ⟨t,rfl⟩:=rx; exact SeqAt.EqAt.str_str a t' b t
  |_=>exact absurd (show false=true from fx) Bool.false_ne_true
 |_=>exact absurd (show false=true from fy) Bool.false_ne_true
noncomputable def eqU (x:V) (u:Value):Bool:=match u with
 |.none=>eqV .non x
 |.bool b=>eqV (.bl b) x
 |.int i _=>eqV (.int i) x
 |.str z _=>eqV (.str z) x
 |_=>false
theorem eqU_of {x y:V} {u:Value} (r:RelV y u) (f:Yp y=true):eqU x u=eqV y x:=by
 cases y with
 |non=>cases r; rfl
 |bl b=>cases r; rfl
 |int i=>obtain ⟨t,rfl⟩:=r; rfl
 |str z=>obtain ⟨t,rfl⟩:=r; rfl
 |_=>exact absurd (show false=true from f) Bool.false_ne_true
theorem any_eqU {x:V}:∀ {xs:List V} {us:List Value},Vals xs us->xs.all Yp=true->us.any (eqU x)=xs.any λy=>eqV y x
 |_,_,.nil,_=>rfl
 |y::xs,u::us,.cons r t,f=>by
  rw [List.all_cons,Bool.and_eq_true] at f;rw [List.any_cons,List.any_cons,eqU_of r f.1,any_eqU t f.2]
theorem mem_eqAt {A:Around} {s:Shared} {x:V} {v:Value} (rx:RelV x v) (fx:Yp x=true):∀ {xs:List V} {us:List Value},Vals xs us->xs.all Yp=true->∀ u∈us,SeqAt.EqAt A s u v (eqU x u)
 |_,_,.nil,_=>λu hu=>by cases hu
 |y::xs,u::us,.cons r t,f=>λu' hu=>by
  rw [List.all_cons,Bool.and_eq_true] at f;rcases List.mem_cons.mp hu with rfl|hu
  ·rw [eqU_of r f.1]; exact eqAt_V r rx f.1 fx
  ·exact mem_eqAt rx fx t f.2 u' hu
noncomputable def inV (x:V) (xs:List V):Bool:=xs.any λy=>eqV y x
noncomputable def rIn (K:Frag) (neg:Bool):R2:=λx y H Q=>∃ p xs,y=.ref p/\(SqL K H p xs\/SqT K H p xs)/\Yp x=true/\xs.all Yp=true/\Q (.bl (if neg then !inV x xs else inV x xs)) H
theorem YO:OpR X (compareOp .In) (rIn X.K false):=by
 intro pins s σ H x y v u Q I rx ry h;obtain ⟨p,xs,rfl,hq,fx,fs,q⟩:=h;cases ry
 rcases hq with hq|hq
 ·obtain ⟨its,r,pl,hz⟩:=I.list hq;refine SeqAt.in_listAt (eqU x) pl.isList (λw hw=>mem_eqAt rx fx r fs w (by simpa using hw)) ⟨.bl _,H,I,rfl,?_⟩
  rw [show its.toArray.any (eqU x)=its.any (eqU x) by simp,any_eqU r fs]
  exact q
 ·obtain ⟨its,r,pl,hz⟩:=I.tuple hq;refine SeqAt.in_tupleAt (eqU x) pl (λw hw=>mem_eqAt rx fx r fs w (by simpa using hw)) ⟨.bl _,H,I,rfl,?_⟩
  rw [show its.toArray.any (eqU x)=its.any (eqU x) by simp,any_eqU r fs]
  exact q
theorem Yv:jB X (.type "list") (λxs H Q=>∃ p ys,xs=[.ref p]/\(SqL X.K H p ys\/SqT X.K H p ys)/\∀ l,H l=none->Q (.ref l) (upd H l (.lst ys))):=by
 intro pins s σ H xs us Q I r h;obtain ⟨p,ys,rfl,hq,q⟩:=h;obtain ⟨u,rfl,rx⟩:=Ze r;cases rx
 have fin:∀ (its:List Value),Vals ys its->ys.length<=sizeLine->∀ (h':Heap) (c':Nat),(∀ b o',s.heap.get? b=some o'->h'.get? b=some o')->
   h'.get? s.heap.objs.size=some {cls:=.type "list",dict:=none,data:=.seq its.toArray c',slots:=#[]}->EP X pins σ Q (.ref s.heap.objs.size) {s with heap:=h'}:=λits r' hz h' c' kp e=>
  ⟨.ref s.heap.objs.size,_,I.laid (t':=s.toks) kp (Nat.le_refl _) (show zu X.prog X.w _ h' _ (.lst ys) from ⟨hz,its,c',r',e⟩),rfl,q _ (I.hok.fresh (Nat.le_refl _))⟩
 rcases hq with hq|hq
 ·obtain ⟨its,r',pl,hz⟩:=I.list hq;have hlen:=r'.length;obtain ⟨o,ho,hc,n,hd⟩:=pl.isList;exact call_list_seq p (.inl rfl) ho hc hd (λh' c' kp e=>fin its r' hz h' c' kp e) (by simp only [List.size_toArray]<;>omega)
 ·obtain ⟨its,r',pl,hz⟩:=I.tuple hq;have hlen:=r'.length;obtain ⟨o,ho,hc,n,hd⟩:=pl;exact call_list_seq p (.inr rfl) ho hc hd (λh' c' kp e=>fin its r' hz h' c' kp e) (by simp only [List.size_toArray]<;>omega)
theorem call_tuple_of:jB X (.type "tuple") (λxs H Q=>∃ p ys,xs=[.ref p]/\((SqL X.K H p ys/\∀ l,H l=none->Q (.ref l) (upd H l (.tup ys)))\/(SqT X.K H p ys/\Q (.ref p) H))):=by
 intro pins s σ H xs us Q I r h;obtain ⟨p,ys,rfl,h⟩:=h;obtain ⟨u,rfl,rx⟩:=Ze r;cases rx
 rcases h with ⟨hq,q⟩|⟨hq,q⟩
 ·obtain ⟨its,r',pl,hz⟩:=I.list hq;have hlen:=r'.length;refine call_tuple_list pl.isList (λh' kp=>?_) (by simp only [List.size_toArray]<;>omega)
  have I1:Inv X pins σ H {s with heap:=h'}:=I.kept (t':=s.toks) kp
  have I2:Inv X pins σ (upd H h'.objs.size (.tup ys)) {s with heap:=h'.push {cls:=.type "tuple",data:=.seq its.toArray}}:=
   I1.laid (t':=s.toks) (λb o e=>Heap.get?_push_of_some _ e) (Nat.le_refl _) (show zu X.prog X.w _ _ _ (.tup ys) from ⟨hz,its,r',IsTup.new _ _⟩)
  exact ⟨.ref h'.objs.size,_,I2,rfl,q _ (I1.hok.fresh (Nat.le_refl _))⟩
 ·obtain ⟨its,r',pl,hz⟩:=I.tuple hq;exact call_tuple_same pl ⟨.ref p,H,I,rfl,q⟩
noncomputable def tyV (K:Frag) (T:String) (x:V) (H:Hp):Prop:=match x with
 |.str _=>T="str"
 |.int _=>T="int"
 |.ref p=>(T="list"/\∃ xs,SqL K H p xs)\/(T="tuple"/\∃ o,K.lookup p=some o/\o.cls=.type "tuple"/\o.dict=none)\/
   (T="dict"/\((∃ kvs,H p=some (.dK kvs))\/∃ kvs,H p=some (.dT kvs)))\/(T="set"/\∃ S n,H p=some (.set S n))
 |_=>False
theorem tyV_is {pins:List (Addr × Obj)} {σ:St} {H:Hp} {s:Shared} {T:String} {x:V} {v:Value} (I:Inv X pins σ H s) (r:RelV x v) (ty:tyV X.K T x H) :
  s.TypeIs v T/\∀ a,v=.ref a->∃ ob,s.heap.get? a=some ob/\ob.dict=none:=by
 cases x with
 |str z=>
  obtain ⟨t,rfl⟩:=r;cases (show T="str" from ty)
  exact ⟨typeIs_str s z t,λ_ e=>nomatch e⟩
 |int i=>
  obtain ⟨t,rfl⟩:=r;cases (show T="int" from ty)
  exact ⟨typeIs_int s i t,λ_ e=>nomatch e⟩
 |ref p=>
  cases r
  rcases ty with ⟨rfl,xs,hq⟩|⟨rfl,o,hk,hc,hd⟩|⟨rfl,hk⟩|⟨rfl,S,n,hk⟩
  ·obtain ⟨its,_,pl,_⟩:=I.list hq;refine ⟨pl.isList.typeIs,λa e=>?_⟩
   cases e
   obtain ⟨o,n,e,c,hd,_⟩:=pl;exact ⟨o,e,hd⟩
  ·refine ⟨⟨o,I.kIn p o hk,hc⟩,λa e=>?_⟩
   cases e
   exact ⟨o,I.kIn _ o hk,hd⟩
  ·have z:∃ o,s.heap.get? p=some o/\o.ExactDict:=by
    rcases hk with ⟨kvs,hk⟩|⟨kvs,hk⟩
    ·obtain ⟨_,_,_,_,o,_,_,e,ex,_⟩:=I.hok p _ hk;exact ⟨o,e,ex⟩
    ·obtain ⟨_,_,_,_,o,_,_,e,ex,_⟩:=I.hok p _ hk;exact ⟨o,e,ex⟩
   obtain ⟨o,e,ex⟩:=z;refine ⟨⟨o,e,ex.1⟩,λa e2=>?_⟩
   cases e2
   exact ⟨o,e,ex.2.1⟩
  ·obtain ⟨o,_,_,_,e,ex,_⟩:=I.hok p _ hk;refine ⟨⟨o,e,ex.1⟩,λa e2=>?_⟩
   cases e2
   exact ⟨o,e,ex.2.1⟩
 |_=>exact False.elim ty
noncomputable def tBM0 (K:Frag) (T:String) (r:V->List V->Hp->VK->Prop) (to:TE):TE:=λσ H Q=>to σ H λx H1=>tyV K T x H1/\r x [] H1 Q
noncomputable def tBM (K:Frag) (T:String) (r:V->List V->Hp->VK->Prop) (to:TE) (t:TA):TE:=λσ H Q=>to σ H λx H1=>tyV K T x H1/\t σ H1 λxs H2=>r x xs H2 Q
variable {o e:Expr} {es:List Expr} {to:TE} {t:TA} {name:Str} {apos cpos:Pos} {T id:String} {r:V->List V->Hp->VK->Prop}
theorem pe_bm0 (pa:PlainAttrs T) (slot:Slot T name id) (hty:typeOf (.builtin id)=pure (.type "method_descriptor")) (hm:MtR X id r) (ho:PE X o to)
  (hbase:attributeBase o name X.env (eval o X.env)=eval o X.env:=by rfl) (hline:(apos.endLine == cpos.line)=true:=by rfl):PE X (.Call (.Attribute o name apos) [] [] cpos) (tBM0 X.K T r to):=by
 intro pins s σ H Q I h;refine wpAny_Call_method0_late hbase hline (thn (ho pins s σ H _ I h) λv s1 zz=>?_)
 obtain ⟨x,H1,I1,r1,ty,q1⟩:=zz;obtain ⟨h1,h2⟩:=tyV_is I1 r1 ty;exact ⟨T,id,pa,slot,hty,h1,h2,Calls.callWith_builtin rfl (PySem.evalArgs_none (hm pins s1 σ H1 x [] v [] Q I1 r1 .nil q1))⟩
theorem Ja (pa:PlainAttrs T) (slot:Slot T name id) (hty:typeOf (.builtin id)=pure (.type "method_descriptor")) (hm:MtR X id r) (ho:PE X o to) (ha:PA X (e::es) t)
  (hbase:attributeBase o name X.env (eval o X.env)=eval o X.env:=by rfl)
  (hfew:((backTo cpos (starEach (e::es) X.env)).all (λx=>!x.1) && (backToKw cpos (keywordEach [] X.env)).all (λx=>x.1.isSome)
   && decide ((e::es).length+([]:List Keyword).length+(if ([]:List Keyword).isEmpty then 0 else 1) < 30))=true:=by rfl)
  (hline:(apos.endLine == cpos.line)=true:=by rfl) (hs:starEach (e::es) X.env=(false,eval e X.env)::starEach es X.env:=by rfl) (hplain:(backTo cpos (starEach es X.env)).any (·.1)=false:=by rfl) :
  PE X (.Call (.Attribute o name apos) (e::es) [] cpos) (tBM X.K T r to t):=by
 intro pins s σ H Q I h;refine wpAny_Call_method_late hbase hfew hline rfl (thn (ho pins s σ H _ I h) λv s1 zz=>?_)
 obtain ⟨x,H1,I1,r1,ty,q1⟩:=zz;obtain ⟨h1,h2⟩:=tyV_is I1 r1 ty;refine ⟨T,id,pa,slot,hty,h1,h2,?_⟩;have hA:=ha cpos pins s1 σ H1 _ I1 q1;rw [hs] at hA ⊢;refine Calls.callWith_builtin (by show (false || (backTo cpos (starEach es X.env)).any (·.1))=false; rw [hplain]<;>rfl) (Calls.evalArgs_plain ?_)
 exact thn hA λus s2 ⟨vs,H2,I2,r2,q2⟩=>hm pins s2 σ H2 x vs v us Q I2 r1 r2 q2
end
end L2
namespace L2
open PySem PySem.Spec PyProof.Rows
noncomputable def MtM (X:Cx) (id:String) (r:V->List V->Hp->VK->Prop):Prop:=
 ∀ (pins:List (Addr × Obj)) (s:Shared) (σ:St) (H:Hp) (x:V) (xs:List V) (v:Value) (us:List Value) (Q:VK),Inv X pins σ H s->RelV x v->Vals xs us->r x xs H Q->
  wpAny (model X.prog X.w) X.A (call (.builtin id) (v::us)) (EP X pins σ Q) X.xe s
theorem Vals.one:∀ {x:V} {us:List Value},Vals [x] us->∃ u,us=[u]/\RelV x u
 |_,_,.cons r .nil=>⟨_,rfl,r⟩
section
variable {X:Cx} {pins:List (Addr × Obj)} {σ:St} {H:Hp} {s:Shared} {l b:Addr} {xs ys zs:List V}
theorem Inv.lset {its its':List Value} {n:Nat} {f:Array Value->Array Value} {t':Nat} (I:Inv X pins σ H s) (hH:H l=some (.lst xs))
  (e:s.heap.get? l=some {cls:=.type "list",data:=.seq its.toArray n}) (hf:f its.toArray=its'.toArray) (hv:Vals ys its') (hz:ys.length<=sizeLine) :
  Inv X pins σ (upd H l (.lst ys)) {s with heap:=s.heap.update l (Obj.mapSeq f),toks:=t'}:=by
 have q:=PySem.IsL.update e f;rw [hf] at q;refine I.write (x:=l) (e:=l) (by rw [hH]; exact trivial) (.inl rfl) (λb' u hb hu=>(Heap.get?_update_other s.heap (Obj.mapSeq f) (Ne.symm hb)).trans hu) ⟨_,q⟩ ?_
 exact ⟨hz,its',_,hv,q⟩
theorem Inv.lnew {its:List Value} {t':Nat} (I:Inv X pins σ H s) (hv:Vals ys its) (hz:ys.length<=sizeLine) :
  Inv X pins σ (upd H s.heap.objs.size (.lst ys)) {s with heap:=s.heap.push {cls:=.type "list",data:=.seq its.toArray},toks:=t'}:=
 I.laid (λ_ _ q=>Heap.get?_push_of_some _ q) (Nat.le_refl _) ⟨hz,its,0,hv,Heap.get?_push_size _ rfl⟩
theorem Inv.fresh (I:Inv X pins σ H s):H s.heap.objs.size=none:=I.hok.fresh (Nat.le_refl _)
theorem Inv.lstM (I:Inv X pins σ H s) (hH:H l=some (.lst xs)):xs.length<=sizeLine/\∃ (its:List Value) (n:Nat),Vals xs its/\xs.length=its.length/\s.heap.get? l=some {cls:=.type "list",data:=.seq its.toArray n}:=by
 obtain ⟨z,its,n,r,e⟩:=I.hok l _ hH;exact ⟨z,its,n,r,r.length,e⟩
theorem notLongL {n:Nat} (h:n<=sizeLine):Builtin.List.listTooLong n=false:=by
 unfold Builtin.List.listTooLong;exact decide_eq_false (by omega)
end
section
variable {X:Cx}
noncomputable def rAppend:V->List V->Hp->VK->Prop:=λx vs H Q=>∃ l xs y,x=.ref l/\vs=[y]/\H l=some (.lst xs)/\xs.length < sizeLine/\Q .non (upd H l (.lst (xs++[y])))
theorem jY:MtM X "list.append" rAppend:=by
 intro pins s σ H x vs v us Q I rx rv h;obtain ⟨l,xs,y,rfl,rfl,hH,hz,q⟩:=h;cases rx
 obtain ⟨u,rfl,ru⟩:=rv.one;obtain ⟨z,its,n,r,hl,e⟩:=I.lstM hH;refine call_meets F.slot_list_append ⟨_,e,rfl⟩ F.entry_list_append (F.args_list_append_2 _ _) (PySem.list_append l its.toArray n u (by rw [List.size_toArray]; omega)) ⟨e,?_⟩
 refine ⟨.non,_,I.lset (its':=its++[u]) hH e (by simp) (r.append (.cons ru .nil)) ?_,rfl,q⟩
 rw [List.length_append,List.length_singleton];omega
noncomputable def rExtend:V->List V->Hp->VK->Prop:=λx vs H Q=>∃ l b xs zs,x=.ref l/\vs=[.ref b]/\H l=some (.lst xs)/\H b=some (.lst zs)/\xs.length+zs.length<=sizeLine/\Q .non (upd H l (.lst (xs++zs)))
theorem mt_extend:MtM X "list.extend" rExtend:=by
 intro pins s σ H x vs v us Q I rx rv h;obtain ⟨l,b,xs,zs,rfl,rfl,hH,hB,hz,q⟩:=h;cases rx
 obtain ⟨u,rfl,ru⟩:=rv.one;cases ru
 obtain ⟨z,its,n,r,hl,e⟩:=I.lstM hH;obtain ⟨z2,aM,n2,r2,mY,e2⟩:=I.lstM hB;have hsz:its.toArray.size+aM.toArray.size<=sizeLine:=by rw [List.size_toArray,List.size_toArray]; omega
 have hlong:¬ (!its.toArray.isEmpty && Builtin.List.listTooLong (its.toArray.size+aM.toArray.size))=true:=by
  rw [notLongL hsz,Bool.and_false];exact Bool.false_ne_true
 refine call_meets F.slot_list_extend ⟨_,e,rfl⟩ F.entry_list_extend (F.args_list_extend_2 _ _)
  (AutoSeq1.list_extend_list_list_0 l its.toArray n b aM.toArray n2 hlong (by rw [List.size_toArray]; omega) (by omega)) ⟨e,e2,?_⟩
 refine ⟨.non,_,I.lset (its':=its++aM) hH e (by simp) (r.append r2) ?_,rfl,q⟩
 rw [List.length_append];omega
noncomputable def rCat:R2:=λx y H Q=>∃ l b xs zs,x=.ref l/\y=.ref b/\H l=some (.lst xs)/\H b=some (.lst zs)/\xs.length+zs.length<=sizeLine/\∀ p,H p=none->Q (.ref p) (upd H p (.lst (xs++zs)))
theorem op_cat:OpR X (binaryOp .Add) rCat:=by
 intro pins s σ H x y v u Q I rx ry h;obtain ⟨l,b,xs,zs,rfl,rfl,hH,hB,hz,q⟩:=h;cases rx
 cases ry
 obtain ⟨z,its,n,r,hl,e⟩:=I.lstM hH;obtain ⟨z2,aM,n2,r2,mY,e2⟩:=I.lstM hB;refine PySem.P.add_list e e2 ?_ (by rw [List.size_toArray,List.size_toArray]; omega)
 have ea:its.toArray++aM.toArray=(its++aM).toArray:=by simp
 rw [ea];exact ⟨.ref _,_,I.lnew (t':=s.toks) (r.append r2) (by rw [List.length_append]; omega),rfl,q _ I.fresh⟩
end
section
variable {prog:Program} {w:World} {A:Around} {E:Value->Shared->Prop} {s:Shared}
end
section
variable {X:Cx}
end
end L2
namespace Att
open PySem PySem.W PySem.Calls PyProof.Rows
theorem ints_of_wellAll {P:Params} {h:Heap}:∀ (ns:List Int) (vs:List Value),WellAll P h vs (ns.map WData.int)->IntsAre vs ns:=by
 intro ns;induction ns with
 |nil=>
  intro vs w;rw [List.map_nil] at w;cases w
  exact .nil
 |cons n ns ih=>
  intro vs w;rw [List.map_cons] at w;cases w with
  |cons a b=>
   cases a
   exact .cons _ _ (ih _ b)
theorem script_of {l:OpenLaw} {n:Nat} (hn:l.most=some n) {P:Params} {h:Heap} {args:List WData} {vals:List Value}
  (hpre:l.row.toRowW.claim.pre args=true) (hwl:WellAll P h vals args) :
  ∃ a vs ns,vals=[Value.ref a]/\args=[WData.list (ns.map WData.int)]/\h.get? a=some {cls:=.type "list",data:=.seq vs.toArray}/\IntsAre vs ns/\ns.length<=n:=by
 have hsh:WShape.hasAll [] args [.list .int]=true:=(pre_splitW hpre).1;have hc:l.pre.holds [] {args:=args}=true:=(pre_splitW hpre).2;obtain ⟨d,r,rfl,h1,h2⟩:=hasAllW_cons hsh;obtain rfl:=hasAllW_nil h2;obtain ⟨xs,rfl,h3⟩:=hasW_list h1;obtain ⟨ns,rfl⟩:=items_int h3;have hlen:ns.length<=n:=by
  unfold OpenLaw.pre at hc;have h4:(WTm.not (.lt (.lit (.int (n:Int))) (.len (.arg 0)))).holds [] {args:=[.list (ns.map .int)]}=true:=by
   have h4:=(holds_andW hc).1;rw [hn] at h4;exact h4
  have h5:=condW_of h4 (w_not (w_lt w_lit (w_len_list (w_arg rfl))));rw [List.length_map] at h5;refine Nat.le_of_not_lt λq=>?_
  have q':(n:Int) < ((ns.length:Nat):Int):=by omega
  first
   | (rw [decide_eq_true q'] at h5; exact absurd h5 (by decide))
   | (simp at h5; omega)
 cases hwl with
 |cons w1 w2=>
  cases w2
  cases w1 with
  |list ho hall=>exact ⟨_,_,ns,rfl,rfl,ho,ints_of_wellAll ns _ hall,hlen⟩
theorem post_true (l:OpenLaw) (args:List WData):l.row.toRowW.claim.post args (.bool true) args=true:=
 postW_of (r:=l.row.toRowW) (X:=(true == true))
  (show WShape.has [] (.bool true) .bool=true by first|rfl|decide|simp [WShape.has,WShape.arms,WShape.armsAll])
  (show (WTm.eq .res (.lit (.bool true))).value [] {args:=args,res:=some (.bool true),after:=args}=some (.bool (true == true)) from w_eq_bool (w_res rfl) w_lit) rfl
section
variable {prog:Program} {w:World} {A:Around} {E:Value->Shared->Prop} {s:Shared} {K:Frag}
end
end Att
namespace L2
open PySem PySem.Spec PyProof.Rows
theorem vals_ints:∀ {vs:List Value} {ns:List Int},IntsAre vs ns->Vals (ns.map V.int) vs
 |_,_,.nil=>.nil
 |_,_,.cons n t h=>.cons ⟨t,rfl⟩ (vals_ints h)
noncomputable def Only (H:Hp):Prop:=∀ b,H b=none\/∃ o xs,H b=some (.frz o (.lst xs))
theorem law_call {P:Program} {w:World} {K:Frag} {mg mb:Str->Option Value} {CX:CXT} {k:Nat} {fa a:Addr} {fd:FuncData} {x:Str} {sp:Sp} {s₁:Shared} {vs:List Value} {ns:List Int}
  (KX:K.In s₁.heap) (hns:s₁.heap.Ns mainGlobals mg) (hb:s₁.heap.Ns builtinsNs mb) (hbb:∀ x:Str,x≠"__name__"->mb x=bootBuiltins x) (hlim:s₁.heap.NoLimit) (hg:s₁.gens=#[])
  (ha:s₁.heap.get? a=some {cls:=.type "list",data:=.seq vs.toArray}) (hi:IntsAre vs ns) (hl:ns.length<=sizeLine) (hr:Room k callerA)
  (F:∀ base:Heap,K.In base->base.Ns mainGlobals mg->FnOk P w K mg base CX k fa fd [x] sp) (hbind:∀ (s:Shared) (u:Value),BindsTo s fd ⟨[u],[]⟩ [(x,u)])
  (hsp:∀ H:Hp,Only H->SqL K H a (ns.map V.int)->sp [.ref a] H (λv _=>v=.bl true) λ_ _ _=>False)
  (hCX:∀ H e s',CX [] H s₁ (λ_ _ _=>False) e s'->False) :
  codeAny (model P w) callerA (.call (.ref fa) ⟨[.ref a],[]⟩) (λr s'=>r=.ok (.ret (.bool true))/\OldK s₁.heap s'.heap/\s'.os=s₁.os/\AllBare s'.gens) s₁:=by
 have rv:=vals_ints hi;have lenV:=hi.length;have core:∀ H:Hp,Only H->SqL K H a (ns.map V.int)->HOk P w H s₁.heap->(∀ b,H b≠none->b=a)->(H a≠none->K.lookup a=none)->
   codeAny (model P w) callerA (.call (.ref fa) ⟨[.ref a],[]⟩) (λr s'=>r=.ok (.ret (.bool true))/\OldK s₁.heap s'.heap/\s'.os=s₁.os/\AllBare s'.gens) s₁:=by
  intro H hO hS hok hA hK;have base_of:∀ {b:Addr} {o:Obj},s₁.heap.get? b=some o->H b=none->(hidT s₁.heap H).get? b=some o:=λe n=>hidT_get e n
  have noA:∀ {b:Addr} {o:Obj} {es:Array DictEntry} {ep:Nat},s₁.heap.get? b=some o->o.data=.dict es ep->H b=none:=λ{b o es ep} e d=>by
   cases q:H b with
   |none=>rfl
   |some u=>
    have e':b=a:=hA b (by rw [q]; simp)
    subst e';rw [ha] at e; cases e
    have d':Data.seq vs.toArray _=Data.dict es ep:=d;cases d'
  have nsK:∀ {b:Addr} {m:Str->Option Value},s₁.heap.Ns b m->(hidT s₁.heap H).Ns b m:=λ{b m} ⟨o,es,ep,e,d,r⟩=>⟨o,es,ep,base_of e (noA e d),d,r⟩
  have hKb:K.In (hidT s₁.heap H):=λb o e=>base_of (KX b o e) (by
   cases q:H b with
   |none=>rfl
   |some u=>
    have e':b=a:=hA b (by rw [q]; simp)
    subst e'
    rw [hK (by rw [q]; simp)] at e; cases e)
  have hM:Mod K mg (hidT s₁.heap H):=⟨hKb,nsK hns,⟨mb,nsK hb,hbb⟩,let ⟨mc,h1,h2⟩:=hlim; ⟨mc,nsK h1,h2⟩⟩;have e0:Env0 P w K mg (hidT s₁.heap H) callerA [] s₁ H:=⟨rfl,hM,λb o e=>of_hidT e,Nat.le_of_eq (hidT_size _ _),trivial,λb hb=>absurd (show b∈([]:List Addr) from hb) (by simp),hok,.of_eq hg⟩
  refine codeAny_mono ((F _ hKb (nsK hns)).run callerA [] s₁ H ⟨[.ref a],[]⟩ [.ref a] [.ref a] _ _ hr e0 (hbind s₁ (.ref a)) (.cons rfl .nil) (hsp H hO hS)) λr s' h=>?_
  cases r with
  |error e=>exact (hCX H e s' h).elim
  |ok fl=>
   cases fl with
   |next=>exact False.elim h
   |brk=>exact False.elim h
   |cont=>exact False.elim h
   |ret u=>
    obtain ⟨v,H',os,bare,un,hok',r',q⟩:=h;have q':v=.bl true:=q;subst q';obtain rfl:u=Value.bool true:=r';refine ⟨rfl,OldK.of_keep λb o e=>?_,os,bare⟩
    cases q:H b with
    |none=>exact un.keep b o e q (by intro z; exact absurd (show b∈([]:List Addr) from z) (by simp)) (by simp)
    |some u=>
     rcases hO b with z|⟨ob,xs,z⟩
     ·rw [q] at z; cases z
     ·have z2:=un.frzs b ob _ z;obtain ⟨e1,_⟩:=hok b _ z;obtain ⟨e2,_⟩:=hok' b _ z2;rw [e] at e1; cases e1
      exact e2
 cases hk:K.lookup a with
 |some o=>
  have e:=KX a o hk;rw [ha] at e;cases e
  refine core (λ_=>none) (λ_=>.inl rfl) (.inr ⟨_,vs.toArray,_,hk,rfl,rfl,rfl,by rw [List.size_toArray,lenV]; exact hl,by simpa using rv⟩) (λb u z=>by have z':(none:Option HO)=some u:=z; cases z') (λb z=>absurd rfl z) λz=>absurd rfl z
 |none=>
  refine core (λb=>if b=a then some (.frz {cls:=.type "list",data:=.seq vs.toArray} (.lst (ns.map V.int))) else none) (λb=>?_) (.inl (.inr ⟨{cls:=.type "list",data:=.seq vs.toArray},if_pos rfl⟩)) (λb u z=>?_) (λb z=>?_) λ_=>hk
  ·by_cases hb:b=a
   ·exact .inr ⟨_,_,if_pos hb⟩
   ·exact .inl (if_neg hb)
  ·by_cases hb:b=a
   ·have z':=(if_pos hb).symm.trans z;cases z'
    subst hb;exact ⟨ha,by rw [List.length_map]; exact hl,vs,_,rv,ha⟩
   ·have z':=(if_neg hb).symm.trans z;cases z'
  ·by_cases hb:b=a
   ·exact hb
   ·exact absurd (if_neg hb) z
end L2
namespace L2
open PySem PySem.Spec PyProof.Rows
end L2
namespace L2
open PySem PySem.Spec PyProof.Rows
noncomputable def zK (s:Stmt):Arguments:=match s with
 |.FunctionDef _ a _ _ _ _ _ _ _ _=>a
 |_=>{posonlyargs:=[],args:=[],vararg:=none,kwonlyargs:=[],kw_defaults:=[],kwarg:=none,defaults:=[]}
noncomputable def zJ (s:Stmt):List Stmt:=match s with
 |.FunctionDef _ _ b _ _ _ _ _ _ _=>b
 |_=>[]
noncomputable def zD (s:Stmt):Scope:=match s with
 |.FunctionDef _ _ _ _ _ _ sc _ _ _=>sc
 |_=>{kind:=.function,names:=[],isGenerator:=false,isCoroutine:=false}
noncomputable abbrev E0:XK:=λ_ _ _=>False
section
variable {P:Program} {w:World} {K:Frag} {mg:Str->Option Value} {base:Heap}
end
section
variable {X:Cx}
theorem pv (i:Nat) {x:Str} {pos:Pos} (hN:X.N[i]?=some x:=by rfl) (hv:Vis X.env.scope x:=by first|exact Or.inl rfl|exact Or.inr (Or.inl rfl)|exact Or.inr (Or.inr rfl)) (hd:(x == ("__debug__" : Str))=false:=by decide)
  (hcd:(x == ("__classdict__" : Str))=false:=by decide):PE X (.Name x pos) (tVar i):=pe_var hN hv hd hcd
end
theorem iteF {A B:Prop} (h:B):if false=true then A else B:=by
 rw [if_neg Bool.false_ne_true];exact h
theorem iteT {A B:Prop} (h:A):if true=true then A else B:=by
 rw [if_pos rfl];exact h
noncomputable def Same (H H':Hp):Prop:=∀ b o,H b=some o->H' b=some o
theorem Same.refl (H:Hp):Same H H:=λ_ _ h=>h
theorem Same.trans {H H1 H2:Hp} (a:Same H H1) (b:Same H1 H2):Same H H2:=λc o h=>b c o (a c o h)
theorem Same.seq {K:Frag} {H H':Hp} {a:Addr} {xs:List V} (e:Same H H') (h:SqL K H a xs):SqL K H' a xs:=by
 rcases h with (h|⟨o,h⟩)|h
 ·exact .inl (.inl (e _ _ h))
 ·exact .inl (.inr ⟨o,e _ _ h⟩)
 ·exact .inr h
end L2
namespace Kw
theorem gcd_step (g s:Int) (hg:0<=g) (hs:0 < s):Int.gcd s (g % s)=Int.gcd g s:=by
 obtain ⟨m,rfl⟩:=Int.eq_ofNat_of_zero_le hg;obtain ⟨n,rfl⟩:=Int.eq_ofNat_of_zero_le (Int.le_of_lt hs);have e:((m:Int) % (n:Int))=((m % n:Nat):Int):=by omega
 rw [e];show Nat.gcd n (m % n)=Nat.gcd m n;rw [Nat.gcd_comm m n,Nat.gcd_rec n m,Nat.gcd_comm]
theorem gcd_abs (a b:Int):Int.gcd (if a < 0 then -a else a) (if b < 0 then -b else b)=Int.gcd a b:=by
 have e:∀ x:Int,(if x < 0 then -x else x).natAbs=x.natAbs:=λx=>by split<;>omega
 show Nat.gcd _ _=Nat.gcd _ _;rw [e,e]
theorem gcd_end (g:Int) (hg:0<=g):((Int.gcd g 0:Nat):Int)=g:=by
 show ((Nat.gcd g.natAbs 0:Nat):Int)=g;rw [Nat.gcd_zero_right]; omega
theorem abs_nn (a:Int):0<=(if a < 0 then -a else a):=by split<;>omega
noncomputable def dv (t b:Int):Int:=if b < 0 then -((Int.gcd t b:Nat):Int) else ((Int.gcd t b:Nat):Int)
noncomputable def fT (t b:Int):Int:=t.fdiv (dv t b)
noncomputable def fB (t b:Int):Int:=b.fdiv (dv t b)
theorem Zl {t b:Int} (h:b≠0):dv t b≠0:=by
 have hp:0 < Int.gcd t b:=Int.gcd_pos_of_ne_zero_right _ h;unfold dv; split<;>omega
theorem dv_le {t b:Int} (h:b≠0):(dv t b).natAbs<=b.natAbs:=by
 have hd:Int.gcd t b ∣ b.natAbs:=Nat.gcd_dvd_right _ _;have:=Nat.le_of_dvd (by omega) hd
 unfold dv; split<;>omega
theorem dv_dvd_b (t b:Int):dv t b ∣ b:=by
 have h:((Int.gcd t b:Nat):Int) ∣ b:=Int.gcd_dvd_right ..;unfold dv; split
 ·exact (Int.neg_dvd).mpr h
 ·exact h
theorem dv_dvd_t (t b:Int):dv t b ∣ t:=by
 have h:((Int.gcd t b:Nat):Int) ∣ t:=Int.gcd_dvd_left ..;unfold dv; split
 ·exact (Int.neg_dvd).mpr h
 ·exact h
theorem fT_mul (t b:Int):dv t b * fT t b=t:=by
 unfold fT;exact Int.mul_fdiv_cancel' (dv_dvd_t t b)
theorem fB_mul (t b:Int):dv t b * fB t b=b:=by
 unfold fB;exact Int.mul_fdiv_cancel' (dv_dvd_b t b)
theorem fB_pos {t b:Int} (h:b≠0):0 < fB t b:=by
 have e:=fB_mul t b;have hn:=Zl (t:=t) h;have hg:0<=((Int.gcd t b:Nat):Int):=Int.natCast_nonneg _;rcases Int.lt_or_gt_of_ne h with hb|hb
 ·have hd:dv t b < 0:=by unfold dv at hn ⊢; rw [if_pos hb] at hn ⊢; omega
  refine Int.not_le.mp λq=>?_
  have:=Int.mul_nonneg_of_nonpos_of_nonpos (Int.le_of_lt hd) q;omega
 ·have hd:0 < dv t b:=by unfold dv at hn ⊢; rw [if_neg (by omega)] at hn ⊢; omega
  refine Int.not_le.mp λq=>?_
  have:=Int.mul_nonpos_of_nonneg_of_nonpos (Int.le_of_lt hd) q;omega
theorem ZG {d x:Int} (h:d≠0):x.natAbs<=(d * x).natAbs:=by
 rw [Int.natAbs_mul];exact Nat.le_mul_of_pos_left _ (by omega)
theorem fT_le {t b:Int} (h:b≠0):(fT t b).natAbs<=t.natAbs:=by
 have q:=ZG (x:=fT t b) (Zl (t:=t) h);rw [fT_mul] at q; exact q
theorem fB_le {t b:Int} (h:b≠0):(fB t b).natAbs<=b.natAbs:=by
 have q:=ZG (x:=fB t b) (Zl (t:=t) h);rw [fB_mul] at q; exact q
end Kw
set_option maxHeartbeats 4000000
namespace Kw
open PySem PySem.Spec PyProof.Rows L2
noncomputable def But (b:Addr) (H H':Hp):Prop:=∀ a o,a≠b->H a=some o->H' a=some o
theorem But.refl {b:Addr} (H:Hp):But b H H:=λ_ _ _ h=>h
theorem But.trans {b:Addr} {H H1 H2:Hp} (x:But b H H1) (y:But b H1 H2):But b H H2:=λa o n h=>y a o n (x a o n h)
theorem But.of {b:Addr} {H H':Hp} (x:Same H H'):But b H H':=λa o _ h=>x a o h
theorem Zv {H:Hp} {p:Addr} (h:H p=none) (o:HO):Same H (upd H p o):=λb u q=>by rw [za (zN q h)]; exact q
theorem but_upd {H:Hp} {p:Addr} (o:HO):But p H (upd H p o):=λb u n q=>by rw [za n]; exact q
theorem Same.tup {K:Frag} {H H':Hp} {a:Addr} {xs:List V} (e:Same H H') (h:SqT K H a xs):SqT K H' a xs:=by
 rcases h with (h|⟨o,h⟩)|h
 ·exact .inl (.inl (e _ _ h))
 ·exact .inl (.inr ⟨o,e _ _ h⟩)
 ·exact .inr h
theorem But.tup {K:Frag} {H H':Hp} {b a:Addr} {ys xs:List V} (e:But b H H') (hb:H b=some (.lst ys)) (h:SqT K H a xs):SqT K H' a xs:=by
 rcases h with (h|⟨o,h⟩)|h
 ·exact .inl (.inl (e _ _ (zy h hb (by intro z; cases z)) h))
 ·exact .inl (.inr ⟨o,e _ _ (zy h hb (by intro z; cases z)) h⟩)
 ·exact .inr h
theorem But.seq {K:Frag} {H H':Hp} {b a:Addr} {xs:List V} (e:But b H H') (n:a≠b) (h:SqL K H a xs):SqL K H' a xs:=by
 rcases h with (h|⟨o,h⟩)|h
 ·exact .inl (.inl (e _ _ n h))
 ·exact .inl (.inr ⟨o,e _ _ n h⟩)
 ·exact .inr h
section
variable {σ:L2.St} {H:Hp} {Q:VK} {v:V} {i j:Int} {K:Frag} {p:Addr} {xs:List V}
theorem JK {R:V->Hp->Prop} {o:HO} (h:∀ p H',Same H H'->H' p=some o->R (.ref p) H'):∀ p,H p=none->R (.ref p) (upd H p o):=λp hp=>h p _ (Zv hp o) zw
end
theorem if_cases {c:Bool} {A B:Prop} (h1:c=true->A) (h2:c=false->B):if c=true then A else B:=by
 cases c
 ·exact iteF (h2 rfl)
 ·exact iteT (h1 rfl)
theorem zd {c:Prop} [Decidable c] {A B:Prop} (h1:c->A) (h2:¬ c->B):if decide c=true then A else B:=
 if_cases (λe=>h1 (of_decide_eq_true e)) (λe=>h2 (of_decide_eq_false e))
theorem yr {i j:Int} {A B:Prop} (h1:i=j->A) (h2:i≠j->B):if decide (V.int i=V.int j)=true then A else B:=
 zd (λe=>h1 (V.int.inj e)) (λe=>h2 λz=>e (congrArg V.int z))
theorem if_neI {i j:Int} {A B:Prop} (h1:i≠j->A) (h2:i=j->B):if (!decide (V.int i=V.int j))=true then A else B:=by
 by_cases e:i=j
 ·rw [show decide (V.int i=V.int j)=true by simp [e]]; exact iteF (h2 e)
 ·rw [show decide (V.int i=V.int j)=false by simp [e]]; exact iteT (h1 e)
section
variable {X:Cx} {a b c:Expr} {ta tb tc:TE} {pos:Pos}
noncomputable def CDivB (_ j:Int):Prop:=j≠0/\j.natAbs.log2 < 9000
theorem yE:OpR X (binaryOp .FloorDiv) (rI CDivB λi j=>.int (i.fdiv j)):=opI λ_ _ _ _ _ _ _ hc q=>floordiv_int hc.1 q (.inl (PyProof.noPylong_of_log2 hc.2))
theorem zc:OpR X (binaryOp .Mult) (rI IntMulOk λi j=>.int (i * j)):=opI λ_ _ _ _ _ _ _ hc q=>mul_int q hc
theorem call_divmodB:jB X (.builtin "divmod") (λxs H Q=>∃ i j,xs=[.int i,.int j]/\(0 < j/\j.natAbs.log2 < 9000)/\∀ p,H p=none->Q (.ref p) (upd H p (.tup [.int (i / j),.int (i % j)]))):=by
 intro pins s σ H xs us Q I r h;obtain ⟨i,j,rfl,⟨h1,h2⟩,q⟩:=h;obtain ⟨u,w',rfl,⟨t,rfl⟩,⟨t',rfl⟩⟩:=vals2 r;refine divmod_int (by omega) ?_ (.inl (PyProof.noPylong_of_log2 h2))
 rw [Int.fdiv_eq_ediv_of_nonneg i (by omega),Int.fmod_eq_emod_of_nonneg i (by omega)]
 have hn:H s.heap.objs.size=none:=I.hok.fresh (Nat.le_refl _);refine ⟨.ref s.heap.objs.size,_,?_,rfl,q _ hn⟩;refine I.laid (λb o e=>Heap.get?_push_of_some _ e) (Nat.le_refl _) ⟨by simp only [List.length_cons,List.length_nil]; rw [sizeLine_eq]; decide,[.int (i / j) s.toks,.int (i % j) (s.toks+1)],.cons ⟨_,rfl⟩ (.cons ⟨_,rfl⟩ .nil),?_⟩
 exact ⟨_,Heap.get?_push_size s.heap rfl,rfl,0,rfl⟩
theorem zZ {x:Str} {i:Int} {pos:Pos} (hg:Gl X x) (hm:∃ t,X.mg x=some (.int i t)) (hd:(x == ("__debug__" : Str))=false:=by decide) (hcd:(x == ("__classdict__" : Str))=false:=by decide):PE X (.Name x pos) (tC (.int i)):=by
 obtain ⟨t,hm⟩:=hm;exact pe_glob hg hm ⟨t,rfl⟩ hd
theorem JM {x:Str} {T:String} {pos:Pos} (hg:Gl X x) (hm:X.mg x=none) (hv:bootBuiltins x=some (.type T)) (hn:x≠"__name__":=by decide) (hd:(x == ("__debug__" : Str))=false:=by decide):PE X (.Name x pos) (tC (.ty T)):=
 pe_bltn hg hm hv (v:=.ty T) rfl hn hd
noncomputable def valC:V->Value
 |.ty T=>.type T
 |.ref C=>.ref C
 |_=>.none
noncomputable def IsI (K:Frag) (H:Hp) (x c:V) (b:Bool):Prop:=∃ t,TyOf K H x t/\kitOne K t (valC c)=some b
theorem jv:jB X (.builtin "isinstance") (λxs H Q=>∃ x c b,xs=[x,c]/\((∃ T,c=.ty T)\/∃ C,c=.ref C)/\IsI X.K H x c b/\Q (.bl b) H):=by
 intro pins s σ H xs us Q I r h;obtain ⟨x,c,b,rfl,hc,⟨t,ty,e⟩,q⟩:=h;obtain ⟨u,w',rfl,rx,rc⟩:=vals2 r;have ec:w'=valC c:=by
  rcases hc with ⟨T,rfl⟩|⟨C,rfl⟩
  ·exact rc
  ·exact rc
 subst ec;exact isinst_ok I rx ty e λtk=>⟨.bl b,H,I.tok _,rfl,q⟩
end
section
variable {M:Model} {A:Around} {E:Value->Shared->Prop} {s:Shared} {bs:Heap} {l up:List Env} {env:Env} {x L:Addr} {c:Value} {od:Option Addr} {a0 fl:Value} {Q:Unit->Shared->Prop}
end
structure FlyAt (H:Hp) (h0 h:Heap) (x:Addr) (C:Value) (od:Option Addr):Prop where
 new:h0.get? x=none
 free:H x=none
 tr:∃ oe vs a0 T oT ts,h.get? x=some oe/\oe.cls=C/\oe.dict=od/\oe.data=.fields vs/\vs[0]?=some a0/\vs[1]?=some (.ref T)/\h0.get? T=none/\H T=none/\T≠x/\h.get? T=some oT/\oT.data=.fields ts/\ts[3]?=some .none
noncomputable def CXE (P:Program) (w:World):CXT:=λouter H s E e s'=>
 ∃ (x:Addr) (C:Value) (od:Option Addr) (H':Hp),e=.ref x/\s'.os=s.os/\AllBare s'.gens/\Un (frs outer) [] H H' s.heap s'.heap/\HOk P w H' s'.heap/\FlyAt H' s.heap s'.heap x C od/\E C od H'
theorem zG {P:Program} {w:World} {X:Cx}:jn (CXE P w) X E0:=λ_ _ _ _ _ _ _ h=>by
 obtain ⟨_,_,_,_,_,_,_,_,_,_,q⟩:=h;exact q.elim
section
variable {X:Cx} {pins:List (Addr × Obj)} {σ:L2.St} {H:Hp} {s:Shared} {h':Heap} {ch:List Addr}
structure Flown (X:Cx) (H:Hp) (h h':Heap) (ch:List Addr):Prop where
 keep:∀ b o,h.get? b=some o->b∉frs X.stack->b∉ch->h'.get? b=some o
 slot:∀ b o,h.get? b=some o->b∈frs X.stack->∃ sl,h'.get? b=some {o with slots:=sl}
 young:∀ b∈ch,X.s₀.heap.get? b=none/\H b=none
end
section
variable {X:Cx} {x:Str} {C:Addr} {E:XK} {e:Expr} {es:List Expr} {t:TA} {np cpos pos:Pos}
end
structure Fu (K:Frag) (x:Str) (st:Stmt) (f:Addr) (fd:FuncData):Prop where
 ex:∃ (oc:Value) (od:Option Addr) (dV kV doc pm:Value) (an:Option Addr) (cdv ct:Value) (osl:Array (Option Value)),
  fd=fnOf x x (zK st) (zJ st) (zD st) dV kV doc pm an cdv ct/\K.lookup f=some ⟨oc,od,.func fd,osl⟩/\codeIn K cdv x=true
 kp:keepIn K (.ref f)=true
structure Df (K:Frag) (mg:Str->Option Value) (x:Str) (st:Stmt) (ps:List Str):Prop where
 ex:∃ f fd,Fu K x st f fd/\Zn K fd ps []/\mg x=some (.ref f)
structure Fn (P:Program) (w:World) (K:Frag) (mg:Str->Option Value) (base:Heap) (k:Nat) (x:Str) (ps:List Str) (sp:Sp):Prop where
 ex:∃ f fd,FnOk P w K mg base (CXE P w) k f fd ps sp/\mg x=some (.ref f)/\keepIn K (.ref f)=true/\Zn K fd ps []/\∃ oc od osl,K.lookup f=some ⟨oc,od,.func fd,osl⟩
section
variable {P:Program} {w:World} {K:Frag} {mg:Str->Option Value} {base:Heap} {x:Str} {st:Stmt} {N ps:List Str} {k:Nat} {sp:Sp}
theorem Df.ok0 (D:Df K mg x st ps) (S:FnScope N ps (zD st)) (len:∀ vs H Q E,sp vs H Q E->vs.length=ps.length)
  (hbody:∀ (f:Addr) (cdv:Value) (A:Around) (outer:List Env) (s:Shared) (H:Hp) (vs:List V) (Q:VK) (E:XK),Room k (A.deeper (envOfC x (zD st) s.heap.objs.size f cdv))->sp vs H Q E->
   ∃ t,PSs (cxOf (CXE P w) P w K mg base N x (zD st) f cdv A outer s H E).nox (zJ st) t/\t {nx:=λ_ H'=>Q .non H',rt:=Q} (Yj N vs) H):Fn P w K mg base (k+1) x ps sp:=by
 obtain ⟨f,fd,⟨⟨oc,od,dV,kV,doc,pm,an,cdv,ct,osl,rfl,lk,hcd⟩,kp⟩,bd,hm⟩:=D.ex;refine ⟨f,_,fn_of lk hcd S len λA outer s H vs Q E hr hsp=>?_,hm,kp,bd,_,_,_,lk⟩
 obtain ⟨t,h,q⟩:=hbody f cdv A outer s H vs Q E hr hsp;exact ⟨t,h.nox,q⟩
end
section
variable {X:Cx} {k k':Nat} {x:Str} {ps:List Str} {sp:Sp} {E:XK} {p pos:Pos} {e:Expr} {es:List Expr} {t:TA}
theorem zI (F:Fn X.prog X.w X.K X.mg X.base k x ps sp) (hk:k<=k') (hr:Room k' X.A) (hg:Gl X x) (hx:jn (CXE X.prog X.w) X E) (ha:PA X (e::es) t) (hdb:(x == ("__debug__" : Str))=false:=by decide)
  (he:starEach (e::es) X.env=(false,eval e X.env)::starEach es X.env:=by rfl) (hpl:(backTo pos (starEach es X.env)).any (·.1)=false:=by rfl):PE X (.Call (.Name x p) (e::es) [] pos) (tCall sp [] E t):=by
 obtain ⟨f,fd,G,hm,kp,bd,_⟩:=F.ex;exact pe_call G (hr.mono hk) hg hm kp bd .nil hx ha hdb he hpl
end
noncomputable def Bd (n:Nat) (i:Int):Prop:=i.natAbs < 2 ^ n
theorem Bd.mono {m n:Nat} {i:Int} (h:Bd m i) (l:m<=n):Bd n i:=Nat.lt_of_lt_of_le h (Nat.pow_le_pow_right (by decide) l)
theorem Bd.of_le {n:Nat} {i j:Int} (h:Bd n j) (l:i.natAbs<=j.natAbs):Bd n i:=Nat.lt_of_le_of_lt l h
theorem Bd.bits {n:Nat} {i:Int} (h:Bd n i):Builtin.Int.intBits i<=n:=intBits_le_iff.mpr h
theorem Yd {n:Nat} {i:Int} (h:Builtin.Int.intBits i<=n):Bd n i:=intBits_le_iff.mp h
theorem Bd.mul {m n:Nat} {i j:Int} (h:Bd m i) (g:Bd n j):Bd (m+n) (i * j):=Yd (intBits_mul_le h.bits g.bits)
theorem Bd.add {m:Nat} {i j:Int} (h:Bd m i) (g:Bd m j):Bd (m+1) (i+j):=Yd (Nat.le_trans (intBits_add_le h.bits g.bits) (by omega))
theorem Bd.sub {m:Nat} {i j:Int} (h:Bd m i) (g:Bd m j):Bd (m+1) (i - j):=Yd (Nat.le_trans (intBits_sub_le h.bits g.bits) (by omega))
theorem Bd.ok {m n:Nat} {i j:Int} (h:Bd m i) (g:Bd n j) (l:m+n<=134217728):IntMulOk i j:=.of_le h.bits g.bits l
theorem Bd.small {i:Int} (h1:-(2 ^ 64) < i) (h2:i < 2 ^ 64):Bd 64 i:=Yd (intBits_le_64 h1 h2)
theorem Bd.log {i:Int} (h:Bd 9000 i):i.natAbs.log2 < 9000:=by
 by_cases h0:i.natAbs=0
 ·rw [h0]; decide+kernel
 ·exact (Nat.log2_lt h0).mpr h
theorem Jd {i j:Int} (h1:-(2 ^ 64) < j) (h2:j < 2 ^ 64):IntMulOk i j:=.of_right (intBits_le_64 h1 h2)
theorem ZX {i j:Int} (h1:-(2 ^ 64) < i) (h2:i < 2 ^ 64):IntMulOk i j:=.of_left (intBits_le_64 h1 h2)
theorem bd_fT {n:Nat} {t b:Int} (h:b≠0) (g:Bd n t):Bd n (fT t b):=g.of_le (fT_le h)
theorem bd_fB {n:Nat} {t b:Int} (h:b≠0) (g:Bd n b):Bd n (fB t b):=g.of_le (fB_le h)
theorem bd_dv {n:Nat} {t b:Int} (h:b≠0) (g:Bd n b):Bd n (dv t b):=g.of_le (dv_le h)
section
variable {K:Frag}
theorem yq:kitOne K (.type "int") (.type "int")=some true:=by with_unfolding_all rfl
theorem yW:kitOne K (.type "int") (.type "bool")=some false:=by with_unfolding_all rfl
theorem Z3:kitOne K (.type "tuple") (.type "tuple")=some true:=by with_unfolding_all rfl
end
noncomputable def JC (K:Frag):Sp:=λvs H Q _=>∃ x t b1 b2,vs=[x]/\TyOf K H x t/\kitOne K t (.type "int")=some b1/\kitOne K t (.type "bool")=some b2/\Q (.bl (b1 && !b2)) H
noncomputable def Frac (t b:Int) (H:Hp) (Q:VK):Prop:=∀ p H',Same H H'->H' p=some (.tup [.int (fT t b),.int (fB t b)])->Q (.ref p) H'
noncomputable def Scr (K:Frag) (H:Hp) (a:Addr):Prop:=∃ ns:List Int,SqL K H a (ns.map V.int)/\ns.length<=63/\∀ n∈ns,Bd 1048576 n
noncomputable def spCell (K:Frag):Sp:=λvs H Q _=>∃ a k,vs=[.ref a,.int k]/\Scr K H a/\0<=k/\k<=1000/\∀ c,Bd 1048576 c->Q (.int c) H
noncomputable def spMix:Sp:=λvs H Q _=>∃ c k,vs=[.int c,.int k]/\Bd 1048576 c/\0<=k/\k<=1000/\∀ n,Q (.int n) H
noncomputable def spBox (K:Frag):Sp:=λvs H Q _=>∃ a k,vs=[.ref a,.int k]/\Scr K H a/\0<=k/\k<=1000/\∀ p n H',H p=none->Same H H'->H' p=some (.lst [.int n])->Q (.ref p) H'
noncomputable def spTake:Sp:=λvs H Q _=>∃ b m n,vs=[.ref b,.int m]/\H b=some (.lst [.int n])/\0 < m/\Bd 9000 m/\∀ d n' H',0<=d->d < m->But b H H'->H' b=some (.lst [.int n'])->Q (.int d) H'
noncomputable def spFit:Sp:=λvs H Q _=>∃ a b:Int,vs=[.int a,.int b]/\b≠0/\Bd 9000 b/\Frac a b H Q
section
variable {X:Cx} {pins:List (Addr × Obj)} {σ:L2.St} {H:Hp} {s:Shared} {h':Heap} {ch:List Addr} {x:Addr}
theorem Inv.adopt (hcl:∀ y c,X.env.cells.lookup y=some c->c≠x) {o:HO} (I:Inv X pins σ H s) (n0:X.s₀.heap.get? x=none) (hx:H x=none) (hL:x≠X.env.locals) (np:∀ p∈X.pn++pins,p.1≠x) (ok:zu X.prog X.w (upd H x o) s.heap x o) :
  Inv X pins σ (upd H x o) s:=by
 have nx:∀ b,H b≠none->b≠x:=λb hb z=>hb (by rw [z]; exact hx)
 refine ⟨I.ok,I.os,I.bare,⟨I.base.keep,I.base.slot,λb ob q n hb=>?_,I.base.there,λb xs q=>?_,λb ob u q=>?_,λb ps q=>?_⟩,I.loc,I.cell,?_,λy c z=>?_,λp hp=>?_,λa u e=>?_,I.len⟩
 ·rw [za λz=>by rw [z,n0] at q; cases q]
  exact I.base.free b ob q n hb
 ·have z:=I.base.tups b xs q;rw [za (nx b (by rw [z]; exact λq=>nomatch q))]
  exact z
 ·have z:=I.base.frzs b ob u q;rw [za (nx b (by rw [z]; exact λq=>nomatch q))]
  exact z
 ·obtain ⟨more,z⟩:=I.base.tbls b ps q;exact ⟨more,by rw [za (nx b (by rw [z]; exact λq=>nomatch q))]; exact z⟩
 ·rw [za (Ne.symm hL)];exact I.free
 ·rw [za (hcl y c z)];exact I.freeC y c z
 ·obtain ⟨a,b,c,d,e⟩:=I.pin p hp;exact ⟨a,by rw [za (np p hp)]; exact b,c,d,e⟩
 ·by_cases z:a=x
  ·subst z;rw [zw] at e;cases e
   exact ok
  ·rw [za z] at e;refine (I.hok a u e).stay (λb v hb q=>q) (λb q=>?_) λb xs q=>?_
   ·rw [za (nx b (by rw [q]; exact λq=>nomatch q))]
    exact q
   ·rw [za (nx b (by rw [q]; exact λq=>nomatch q))]
    exact q
end
section
variable {X:Cx} {pins:List (Addr × Obj)} {σ:L2.St} {H:Hp} {s:Shared}
end
section
variable {X:Cx} {k k' i j:Nat} {fx y n xK:Str} {ps:List Str} {sp:Sp} {CK:Addr} {e:Expr} {es:List Expr} {t:TA} {ts:TS} {b₀:Stmt} {suite:List Stmt} {np cpos yp apos kp hpos pos:Pos}
end
section
variable {X:Cx}
end
section
variable {X:Cx} {pins:List (Addr × Obj)} {σ:L2.St} {H:Hp} {s:Shared} {h':Heap} {ch:List Addr}
end
section
variable {X:Cx}
theorem all_range_eq:∀ (ns ms:List Int),((List.range (min ns.length ms.length)).all (λj=>decide (ns[j]?=ms[j]?)) && ns.length == ms.length)=decide (ns=ms):=by
 intro ns ms;by_cases e:ns=ms
 ·subst e;rw [decide_eq_true rfl,Bool.and_eq_true];exact ⟨List.all_eq_true.mpr λj _=>decide_eq_true rfl,beq_self_eq_true _⟩
 ·rw [decide_eq_false e,Bool.and_eq_false_iff];by_cases l:ns.length=ms.length
  ·left
   refine Bool.eq_false_iff.mpr λh=>e (List.ext_getElem? λi=>?_)
   by_cases hi:i < ns.length
   ·exact of_decide_eq_true (List.all_eq_true.mp h i (List.mem_range.mpr (by omega)))
   ·rw [List.getElem?_eq_none (by omega),List.getElem?_eq_none (by omega)]
  ·right
   exact beq_eq_false_iff_ne.mpr l
theorem int_item {ns:List Int} {its:List Value} (r:Vals (ns.map V.int) its) {j:Nat} (h:j < its.toArray.size):∃ n t,ns[j]?=some n/\its.toArray[j]=Value.int n t:=by
 have hl:=r.length;rw [List.length_map] at hl;have hj:j < ns.length:=by simp at h; omega
 have e:(ns.map V.int)[j]?=some (V.int ns[j]):=by rw [List.getElem?_map,List.getElem?_eq_getElem hj]; rfl
 obtain ⟨u,hu,t,rfl⟩:=r.get e;refine ⟨ns[j],t,List.getElem?_eq_getElem hj,?_⟩;have hj':j < its.length:=by omega
 rw [List.getElem?_eq_getElem hj'] at hu;simpa using Option.some.inj hu
theorem op_eqTI (hu:X.A.units < cLine):OpR X (compareOp .Eq) (λx y H Q=>∃ (a b:Addr) (ns ms:List Int),x=.ref a/\y=.ref b/\SqT X.K H a (ns.map V.int)/\SqT X.K H b (ms.map V.int)/\Q (.bl (decide (ns=ms))) H):=by
 intro pins s σ H x y v u Q I rx ry h;obtain ⟨a,b,ns,ms,rfl,rfl,ha,hb,q⟩:=h;cases (show v=Value.ref a from rx)
 cases (show u=Value.ref b from ry)
 obtain ⟨its,r,pl,hz⟩:=I.tuple ha;obtain ⟨jts,r',pl',hz'⟩:=I.tuple hb;refine SeqAt.eq_tupleAt (e:=λj=>decide (ns[j]?=ms[j]?)) pl pl' hu (λj h1 h2=>?_) ?_
 ·obtain ⟨n,t,e1,e2⟩:=int_item r h1;obtain ⟨m,t',e3,e4⟩:=int_item r' h2;rw [e2,e4,e1,e3];have z:decide (some n=some m)=(n == m):=by
   by_cases c:n=m
   ·subst c; simp
   ·simp [c]
  rw [z];exact SeqAt.EqAt.int_int n t m t'
 ·have l1:its.toArray.size=ns.length:=by rw [List.size_toArray,<- r.length,List.length_map]
  have l2:jts.toArray.size=ms.length:=by rw [List.size_toArray,<- r'.length,List.length_map]
  rw [l1,l2,all_range_eq];exact ⟨.bl (decide (ns=ms)),H,I,rfl,q⟩
end
theorem Yl:∀ (ns:List Int) (n:Int),n∈ns->Builtin.Int.intBits n<=PySem.W.WData.weightAll (ns.map PySem.W.WData.int)
 |[],_,h=>nomatch h
 |m::r,n,h=>by
  have e:PySem.W.WData.weightAll ((m::r).map PySem.W.WData.int)=Builtin.Int.intBits m+1+PySem.W.WData.weightAll (r.map PySem.W.WData.int):=rfl;rw [e];rcases List.mem_cons.mp h with z|z
  ·subst z; omega
  ·have:=Yl r n z;omega
theorem script_bits {ns:List Int} (h:PySem.W.WData.layableAll [PySem.W.WData.list (ns.map PySem.W.WData.int)]=true):∀ n∈ns,Bd 1048576 n:=λn hn=>by
 have h1:PySem.W.WData.layable (PySem.W.WData.list (ns.map PySem.W.WData.int))=true:=by
  unfold PySem.W.WData.layableAll at h;simpa using h
 unfold PySem.W.WData.layable at h1;rw [Bool.and_eq_true] at h1;have h2:PySem.W.WData.weightAll (ns.map PySem.W.WData.int)<=2 ^ 20:=of_decide_eq_true h1.2;exact Yd (Nat.le_trans (Yl ns n hn) h2)
noncomputable def spLaw (K:Frag):Sp:=λvs H Q _=>∃ a,vs=[.ref a]/\Scr K H a/\∀ H',Q (.bl true) H'
theorem walk_kw {pn:Str} {l:PySem.W.OpenLaw} {k:Nat} {q:Program} {loose:List Str} {XP:(Str->Option Value)->Heap->Prop} {YP:World->Heap->Prop} {d:DefRec} {K:Params->Frag}
  (hn:l.most=some 63) (hdf:d.params.defaults=[]) (hr:Room k callerA) (hY:∀ (w:World) (h:Heap),YP w h->(K w.params).In h) (hnm:d.name="law")
  (F:∀ (w:World) (mg:Str->Option Value) (h:Heap),(K w.params).In h->h.Ns mainGlobals mg->∃ fa,mg "law"=some (.ref fa)/\∃ fd:FuncData,(∀ (s:Shared) (u:Value),BindsTo s fd ⟨[u],[]⟩ [(pn,u)])/\
   ∀ base:Heap,(K w.params).In base->base.Ns mainGlobals mg->FnOk l.prog w (K w.params) mg base (CXE l.prog w) k fa fd [pn] (spLaw (K w.params))) :
  PySem.W.WalkO q loose XP YP l.row.toRowW d [] (λf vs=>PySem.call f vs):=by
 intro w s₀ s₁ mg mb G Y fa o pm cd doc dV kV ho hd hcd hD hmg hg args vals as hpre hlay hrd hwl hlo;obtain ⟨a,vs,ns,e1,e2,hobj,hints,hlen⟩:=Att.script_of hn hpre hwl;subst e1 e2;have KX:=hY w _ Y;obtain ⟨fa',hfa,fd,hb,hF⟩:=F w mg _ KX G.T.g;rw [hnm,hfa] at hmg;cases hmg
 have core:=law_call KX G.T.g G.T.b G.T.builtins G.T.nolimit hg hobj hints (Nat.le_trans hlen (by decide)) hr hF hb (λH hO hS=>⟨a,rfl,⟨ns,hS,hlen,script_bits hlay⟩,λ_=>rfl⟩) (λH e s' z=>by
  obtain ⟨_,_,_,_,_,_,_,_,_,_,z⟩:=z
  exact z)
 refine PySem.W.enter_call (codeAny_mono core λr s' hq=>?_)
 obtain ⟨rfl,h2,h3,h4⟩:=hq;exact ⟨.inl ⟨.bool true,.bool true,[],rfl,λ_=>rfl,.bool true,Att.post_true l _,λ_=>⟨List.Pairwise.nil,λ_ hm=>(nomatch hm)⟩⟩,h2,h3,h4⟩
theorem zb {K:Frag} {h:Heap} {mg:Str->Option Value} {x:Str} {st:Stmt} {ps:List Str} {f:Addr} {od an:Option Addr} {sl:Array (Option Value)} {oc kV dc pm cd ct:Value} (X:K.In h) (G:h.Ns mainGlobals mg)
  (a:nsIn K mainGlobals x=some (some (.ref f))) (l:K.lookup f=some ⟨oc,od,.func (fnOf x x (zK st) (zJ st) (zD st) .none kV dc pm an cd ct),sl⟩) (c:codeIn K cd x=true) (k:keepIn K (.ref f)=true)
  (b:∀ us:List Value,us.length=ps.length->bindArgs (fnOf x x (zK st) (zJ st) (zD st) .none kV dc pm an cd ct) ⟨us,[]⟩=pure (ps.zip us)):Df K mg x st ps:=
 ⟨f,_,⟨⟨oc,od,.none,kV,dc,pm,an,cd,ct,sl,rfl,l,c⟩,k⟩,.all b,mg_of X G a⟩
theorem df_mkD {K:Frag} {h:Heap} {mg:Str->Option Value} {x:Str} {st:Stmt} {ps:List Str} {f D:Addr} {od an oD:Option Addr} {sl slD:Array (Option Value)} {oc kV dc pm cd ct cD:Value} {items:Array Value} {n:Nat} (X:K.In h) (G:h.Ns mainGlobals mg)
  (a:nsIn K mainGlobals x=some (some (.ref f))) (l:K.lookup f=some ⟨oc,od,.func (fnOf x x (zK st) (zJ st) (zD st) (.ref D) kV dc pm an cd ct),sl⟩) (c:codeIn K cd x=true) (k:keepIn K (.ref f)=true)
  (lD:K.lookup D=some ⟨cD,oD,.seq items n,slD⟩)
  (b:∀ us:List Value,us.length=ps.length->∃ kk:Option (Array Value)->Sem (List (Str × Value)),bindArgs (fnOf x x (zK st) (zJ st) (zD st) (.ref D) kV dc pm an cd ct) ⟨us,[]⟩=seqItems? (.ref D) >>= kk/\kk (some items)=pure (ps.zip us)):Df K mg x st ps:=
 ⟨f,_,⟨⟨oc,od,.ref D,kV,dc,pm,an,cd,ct,sl,rfl,l,c⟩,k⟩,λs us hk hl=>by
  rw [List.append_nil] at hl ⊢;obtain ⟨kk,h1,h2⟩:=b us hl
  exact BindsTo.of_defaults rfl (hk _ _ lD) rfl h1 h2,mg_of X G a⟩
theorem law_end {pn:Str} {P:Program} {w:World} {K:Frag} {h:Heap} {mg:Str->Option Value} {st:Stmt} {f:Addr} {od an:Option Addr} {sl:Array (Option Value)} {oc kV dc pm cd ct:Value} {k:Nat} (X:K.In h) (G:h.Ns mainGlobals mg)
  (a:nsIn K mainGlobals "law"=some (some (.ref f))) (l:K.lookup f=some ⟨oc,od,.func (fnOf "law" "law" (zK st) (zJ st) (zD st) .none kV dc pm an cd ct),sl⟩)
  (b:∀ u:Value,bindArgs (fnOf "law" "law" (zK st) (zJ st) (zD st) .none kV dc pm an cd ct) ⟨[u],[]⟩=pure [(pn,u)])
  (F:∀ base:Heap,K.In base->base.Ns mainGlobals mg->Fn P w K mg base k "law" [pn] (spLaw K)) :
  ∃ fa,mg "law"=some (.ref fa)/\∃ fd:FuncData,(∀ (s:Shared) (u:Value),BindsTo s fd ⟨[u],[]⟩ [(pn,u)])/\∀ base:Heap,K.In base->base.Ns mainGlobals mg->FnOk P w K mg base (CXE P w) k fa fd [pn] (spLaw K):=by
 have hm:=mg_of X G a;refine ⟨f,hm,_,λs u=>.of_eq (b u),λbase kb nb=>?_⟩
 obtain ⟨f',fd',G',hm',_,_,_,_,_,lk⟩:=(F base kb nb).ex;rw [hm] at hm';cases hm'
 rw [l] at lk;cases lk
 exact G'
end Kw
namespace Kw
theorem q_of {n d:Int} (hd:0 < d) (hg:Int.gcd n d=1):(Rat.divInt n d).num=n/\(((Rat.divInt n d).den:Nat):Int)=d:=by
 rw [Rat.num_divInt,Rat.den_divInt,Int.gcd_comm,hg,Int.sign_eq_one_of_pos hd,if_neg (by omega)]
 constructor
 ·simp
 ·simp; omega
theorem q_is {q:Rat} {n d:Int} (hd:0 < d) (hg:Int.gcd n d=1) (e:q=Rat.divInt n d):n=q.num/\d=((q.den:Nat):Int):=by
 subst e;obtain ⟨a,b⟩:=q_of hd hg;exact ⟨a.symm,b.symm⟩
theorem gcd_fT_fB {t b:Int} (h:b≠0):Int.gcd (fT t b) (fB t b)=1:=by
 have hp:0 < Int.gcd t b:=Int.gcd_pos_of_ne_zero_right _ h;have e1:=fT_mul t b;have e2:=fB_mul t b;have e:Int.gcd (dv t b * fT t b) (dv t b * fB t b)=(dv t b).natAbs * Int.gcd (fT t b) (fB t b):=Int.gcd_mul_left ..;rw [e1,e2] at e;have hn:(dv t b).natAbs=Int.gcd t b:=by unfold dv; split<;>simp
 rw [hn] at e;exact Nat.eq_of_mul_eq_mul_left hp (by omega)
theorem q_fit {t b:Int} (h:b≠0):fT t b=(Rat.divInt t b).num/\fB t b=(((Rat.divInt t b).den:Nat):Int):=by
 refine q_is (fB_pos h) (gcd_fT_fB h) ?_;have e:=Rat.divInt_mul_left (n:=fT t b) (d:=fB t b) (Zl (t:=t) h);rw [fT_mul,fB_mul] at e;exact e
theorem q_red (q:Rat):Int.gcd q.num ((q.den:Nat):Int)=1:=by
 have:=q.reduced;simpa [Int.gcd,Nat.Coprime] using this
theorem Yx (q:Rat):0 < ((q.den:Nat):Int):=by
 have:=q.den_nz;omega
theorem q_add (x y:Rat):Rat.divInt (x.num * y.den+y.num * x.den) (x.den * y.den)=x+y:=by
 conv=>rhs; rw [<- Rat.num_divInt_den x,<- Rat.num_divInt_den y]
 rw [Rat.divInt_add_divInt _ _ (by have:=Yx x; omega) (by have:=Yx y; omega)]
theorem q_sub (x y:Rat):Rat.divInt (x.num * y.den - y.num * x.den) (x.den * y.den)=x - y:=by
 conv=>rhs; rw [<- Rat.num_divInt_den x,<- Rat.num_divInt_den y]
 rw [Rat.divInt_sub_divInt _ _ (by have:=Yx x; omega) (by have:=Yx y; omega)]
theorem q_mul (x y:Rat):Rat.divInt (x.num * y.num) (x.den * y.den)=x * y:=by
 conv=>rhs; rw [<- Rat.num_divInt_den x,<- Rat.num_divInt_den y]
 rw [Rat.divInt_mul_divInt]
theorem q_inv (y:Rat):Rat.divInt y.den y.num=y⁻¹:=by
 conv=>rhs; rw [<- Rat.num_divInt_den y]
 rw [Rat.inv_divInt]
theorem q_div (x y:Rat):Rat.divInt (x.num * y.den) (x.den * y.num)=x / y:=by
 rw [Rat.div_def,<- q_inv];conv=>rhs; rw [<- Rat.num_divInt_den x]
 rw [Rat.divInt_mul_divInt]
theorem q_neg (y:Rat):(-y).num=-y.num/\(-y).den=y.den:=⟨rfl,rfl⟩
theorem q_lt (x y:Rat):x < y↔x.num * y.den < y.num * x.den:=Rat.lt_iff x y
theorem y9 {x g:Int} (h:g ∣ x):g * x.fdiv g=x:=Int.mul_fdiv_cancel' h
theorem Yz {x g:Int} (h:g ∣ x):x.fdiv g ∣ x:=⟨g,by rw [Int.mul_comm]; exact (y9 h).symm⟩
theorem Zc {a b b':Int} (h:Int.gcd a b=1) (d:b' ∣ b):Int.gcd a b'=1:=by
 have h1:Int.gcd a b' ∣ Int.gcd a b:=Int.dvd_gcd (Int.gcd_dvd_left ..) (Int.dvd_trans (Int.gcd_dvd_right ..) d);rw [h] at h1;exact Nat.dvd_one.mp h1
theorem ZT {a b c:Int} (h:Int.gcd a b=1) (k:Int.gcd a c=1):Int.gcd a (b * c)=1:=by
 show Nat.gcd a.natAbs (b * c).natAbs=1;rw [Int.natAbs_mul];exact Nat.Coprime.mul_right h k
theorem cop_add {a b c:Int} (h:Int.gcd a b=1):Int.gcd (a+c * b) b=1:=by
 rw [Int.gcd_add_mul_right_left]; exact h
theorem Y5 {a b:Int} (h:b≠0) (g:Int) (hg:g=((Int.gcd a b:Nat):Int)):Int.gcd (a.fdiv g) (b.fdiv g)=1:=by
 have hp:0 < Int.gcd a b:=Int.gcd_pos_of_ne_zero_right _ h;have e1:g * a.fdiv g=a:=y9 (by rw [hg]; exact Int.gcd_dvd_left ..)
 have e2:g * b.fdiv g=b:=y9 (by rw [hg]; exact Int.gcd_dvd_right ..)
 have e:Int.gcd (g * a.fdiv g) (g * b.fdiv g)=g.natAbs * Int.gcd (a.fdiv g) (b.fdiv g):=Int.gcd_mul_left ..;rw [e1,e2] at e;have hn:g.natAbs=Int.gcd a b:=by rw [hg]; simp
 rw [hn] at e;exact Nat.eq_of_mul_eq_mul_left hp (by omega)
theorem Z4 {b g:Int} (hb:0 < b) (hg:0 < g) (d:g ∣ b):0 < b.fdiv g:=by
 have e:=y9 d;refine Int.not_le.mp λq=>?_
 have:=Int.mul_nonpos_of_nonneg_of_nonpos (Int.le_of_lt hg) q;omega
theorem gpos {a b:Int} (h:b≠0):0 < ((Int.gcd a b:Nat):Int):=by
 have:=Int.gcd_pos_of_ne_zero_right a h;omega
theorem q_plus (x y:Rat) (g t h:Int) (hg:g=((Int.gcd ((x.den:Nat):Int) ((y.den:Nat):Int):Nat):Int)) (ht:t=x.num * ((y.den:Nat):Int).fdiv g+y.num * ((x.den:Nat):Int).fdiv g) (hh:h=((Int.gcd t g:Nat):Int)) :
  t.fdiv h=(x+y).num/\((x.den:Nat):Int).fdiv g * ((y.den:Nat):Int).fdiv h=(((x+y).den:Nat):Int):=by
 have hb:=Yx x;have hd:=Yx y;have rx:=q_red x;have ry:=q_red y;have ea:=q_add x y
 revert hb hd rx ry hg ht ea
 generalize x.num=a;generalize y.num=c;generalize ((x.den:Nat):Int)=b;generalize ((y.den:Nat):Int)=d;intro hg ht hb hd rx ry ea;have g0:0 < g:=by rw [hg]; exact gpos (by omega)
 have h0:0 < h:=by rw [hh]; exact gpos (by omega)
 have gb:g ∣ b:=by rw [hg]; exact Int.gcd_dvd_left ..
 have gd:g ∣ d:=by rw [hg]; exact Int.gcd_dvd_right ..
 have hht:h ∣ t:=by rw [hh]; exact Int.gcd_dvd_left ..
 have hhg:h ∣ g:=by rw [hh]; exact Int.gcd_dvd_right ..
 have eb:=y9 gb;have ed:=y9 gd;have et:=y9 hht;have eg:=y9 hhg;have b0:=Z4 hb g0 gb;have d0:=Z4 hd g0 gd;have k0:=Z4 g0 h0 hhg;have cbd:Int.gcd (b.fdiv g) (d.fdiv g)=1:=Y5 (by omega) g hg
 have ctg:Int.gcd (t.fdiv h) (g.fdiv h)=1:=Y5 (by omega) h hh
 have dh:d.fdiv h=g.fdiv h * d.fdiv g:=by
  have e:=y9 (Int.dvd_trans hhg gd);have e2:h * (g.fdiv h * d.fdiv g)=d:=by rw [<- Int.mul_assoc,eg,ed]
  exact Int.eq_of_mul_eq_mul_left (by omega) (e.trans e2.symm)
 have oE:Int.gcd t (b.fdiv g)=1:=by
  rw [ht];refine cop_add ?_;rw [Int.gcd_comm];exact ZT (by rw [Int.gcd_comm]; exact Zc rx ⟨g,by rw [Int.mul_comm]; exact eb.symm⟩) cbd
 have oF:Int.gcd t (d.fdiv g)=1:=by
  rw [ht,Int.add_comm];refine cop_add ?_;rw [Int.gcd_comm];exact ZT (by rw [Int.gcd_comm]; exact Zc ry ⟨g,by rw [Int.mul_comm]; exact ed.symm⟩) (by rw [Int.gcd_comm]; exact cbd)
 have sub:∀ z,Int.gcd t z=1->Int.gcd (t.fdiv h) z=1:=λz hz=>by
  rw [Int.gcd_comm] at hz ⊢;exact Zc hz ⟨h,by rw [Int.mul_comm]; exact et.symm⟩
 rw [dh];refine q_is ?_ ?_ ?_
 ·exact Int.mul_pos b0 (Int.mul_pos k0 d0)
 ·exact ZT (sub _ oE) (ZT ctg (sub _ oF))
 ·rw [<- ea];have z:=Rat.divInt_mul_left (n:=t.fdiv h) (d:=b.fdiv g * (g.fdiv h * d.fdiv g)) (a:=g * h) (by have:=Int.mul_pos g0 h0; omega)
  rw [<- z];congr 1
  ·rw [Int.mul_assoc,et,ht,Int.mul_add];congr 1
   ·rw [<- Int.mul_assoc,Int.mul_comm g,Int.mul_assoc,ed]
   ·rw [<- Int.mul_assoc,Int.mul_comm g,Int.mul_assoc,eb]
  ·rw [show g * h * (b.fdiv g * (g.fdiv h * d.fdiv g))=(g * b.fdiv g) * ((h * g.fdiv h) * d.fdiv g) by grind,eb,eg,ed]
theorem q_times (x y:Rat) (f s:Int) (hf:f=((Int.gcd x.num ((y.den:Nat):Int):Nat):Int)) (hs:s=((Int.gcd y.num ((x.den:Nat):Int):Nat):Int)) :
  x.num.fdiv f * y.num.fdiv s=(x * y).num/\((x.den:Nat):Int).fdiv s * ((y.den:Nat):Int).fdiv f=(((x * y).den:Nat):Int):=by
 have hb:=Yx x;have hd:=Yx y;have rx:=q_red x;have ry:=q_red y;have ea:=q_mul x y
 revert hb hd rx ry hf hs ea
 generalize x.num=a;generalize y.num=c;generalize ((x.den:Nat):Int)=b;generalize ((y.den:Nat):Int)=d;intro hf hs hb hd rx ry ea;have f0:0 < f:=by rw [hf]; exact gpos (by omega)
 have s0:0 < s:=by rw [hs]; exact gpos (by omega)
 have fa:f ∣ a:=by rw [hf]; exact Int.gcd_dvd_left ..
 have fd:f ∣ d:=by rw [hf]; exact Int.gcd_dvd_right ..
 have sc:s ∣ c:=by rw [hs]; exact Int.gcd_dvd_left ..
 have sb:s ∣ b:=by rw [hs]; exact Int.gcd_dvd_right ..
 have ea':=y9 fa;have ed:=y9 fd;have ec:=y9 sc;have eb:=y9 sb;have c1:Int.gcd (a.fdiv f) (d.fdiv f)=1:=Y5 (by omega) f hf
 have c2:Int.gcd (c.fdiv s) (b.fdiv s)=1:=Y5 (by omega) s hs
 have c3:Int.gcd (a.fdiv f) (b.fdiv s)=1:=by
  refine Zc (b:=b) ?_ (Yz sb);rw [Int.gcd_comm] at rx ⊢;exact Zc rx (Yz fa)
 have c4:Int.gcd (c.fdiv s) (d.fdiv f)=1:=by
  refine Zc (b:=d) ?_ (Yz fd);rw [Int.gcd_comm] at ry ⊢;exact Zc ry (Yz sc)
 refine q_is (Int.mul_pos (Z4 hb s0 sb) (Z4 hd f0 fd)) ?_ ?_
 ·rw [Int.gcd_comm];refine ZT ?_ ?_
  ·rw [Int.gcd_comm]; exact ZT c3 c1
  ·rw [Int.gcd_comm]; exact ZT c2 c4
 ·rw [<- ea];have z:=Rat.divInt_mul_left (n:=a.fdiv f * c.fdiv s) (d:=b.fdiv s * d.fdiv f) (a:=f * s) (by have:=Int.mul_pos f0 s0; omega)
  rw [<- z];congr 1
  ·rw [show f * s * (a.fdiv f * c.fdiv s)=(f * a.fdiv f) * (s * c.fdiv s) by grind,ea',ec]
  ·rw [show f * s * (b.fdiv s * d.fdiv f)=(s * b.fdiv s) * (f * d.fdiv f) by grind,eb,ed]
theorem q_dv (a b:Int):Rat.divInt a b=(a:Rat) / (b:Rat):=by
 have h:=q_div (a:Rat) (b:Rat);have e1:(a:Rat).num * (((b:Rat).den:Nat):Int)=a:=by show a * 1=a; omega
 have e2:(((a:Rat).den:Nat):Int) * (b:Rat).num=b:=by show 1 * b=b; omega
 rw [e1,e2] at h;exact h
theorem q_intne {i:Int} (h:i≠0):(i:Rat)≠0:=λe=>h (by have:=congrArg Rat.num e; exact this)
theorem q_wpos {i:Int} (h:1<=i):(0:Rat) < (i:Rat):=by
 have:((0:Int):Rat) < (i:Rat):=Rat.intCast_lt_intCast.mpr (by omega)
 exact this
theorem Yt {a b:Int} (ha:0 < a) (hb:0 < b):(0:Rat) < Rat.divInt a b:=by
 rw [q_dv];rw [Rat.div_def];exact Rat.mul_pos (q_wpos (by omega)) (Rat.inv_pos.mpr (q_wpos (by omega)))
noncomputable def mixQ (u v:Rat) (m w:Int):Rat:=u * Rat.divInt (m - w) (m+w)+v * Rat.divInt (2 * w) (m+w)
theorem y7 (u v:Rat) (m w:Int):mixQ u v m w=u * (((m:Rat) - w) / (m+w))+v * ((2 * w) / (m+w)):=by
 unfold mixQ;rw [q_dv,q_dv];simp only [Rat.intCast_add,Rat.intCast_sub,Rat.intCast_mul];rfl
theorem q_le0 (x:Rat):x.num<=0↔¬ 0 < x:=by
 have h:=q_lt 0 x;have e:(0:Rat).num * (x.den:Int) < x.num * ((0:Rat).den:Int)↔0 < x.num:=by
  show 0 * (x.den:Int) < x.num * 1↔0 < x.num;omega
 rw [h,e];omega
end Kw
namespace Kw
open PySem PySem.Spec PyProof.Rows L2 PySem.Builtin PySem.Builtin.ObjectAttr PySem.Builtin.Getset_descriptor
section
variable {prog:Program} {w:World} {A:Around} {E:Value->Shared->Prop} {s:Shared} {K:Frag} {x C:Addr}
end
section
variable {X:Cx}
end
end Kw
namespace Kw
open PySem PySem.Spec PyProof.Rows L2
mutual
inductive Dp (K:Frag) (H:Hp):V->PyData->Prop
 |non:Dp K H .non .none
 |bl (b:Bool):Dp K H (.bl b) (.bool b)
 |int (i:Int):Dp K H (.int i) (.int i)
 |str (x:Str):Dp K H (.str x) (.str x)
 |lst {p:Addr} {xs:List V} {ds:List PyData}:SqL K H p xs->Dps K H xs ds->Dp K H (.ref p) (.list ds)
 |tup {p:Addr} {xs:List V} {ds:List PyData}:SqT K H p xs->Dps K H xs ds->Dp K H (.ref p) (.tuple ds)
inductive Dps (K:Frag) (H:Hp):List V->List PyData->Prop
 |nil:Dps K H [] []
 |cons {x:V} {xs:List V} {d:PyData} {ds:List PyData}:Dp K H x d->Dps K H xs ds->Dps K H (x::xs) (d::ds)
end
mutual
theorem Dp.same {K:Frag} {H H':Hp} (e:Same H H'):∀ {x:V} {d:PyData},Dp K H x d->Dp K H' x d
 |_,_,.non=>.non
 |_,_,.bl b=>.bl b
 |_,_,.int i=>.int i
 |_,_,.str x=>.str x
 |_,_,.lst h r=>.lst (e.seq h) (Dps.same e r)
 |_,_,.tup h r=>.tup (Same.tup e h) (Dps.same e r)
theorem Dps.same {K:Frag} {H H':Hp} (e:Same H H'):∀ {xs:List V} {ds:List PyData},Dps K H xs ds->Dps K H' xs ds
 |_,_,.nil=>.nil
 |_,_,.cons h r=>.cons (Dp.same e h) (Dps.same e r)
end
section
variable {X:Cx} {pins:List (Addr × Obj)} {σ:L2.St} {H:Hp} {s:Shared}
mutual
theorem Dp.reads (I:Inv X pins σ H s):∀ {x:V} {d:PyData} {u:Value},Dp X.K H x d->RelV x u->∃ as,Reads s.heap u d as
 |_,_,_,.non,r=>by cases r; exact ⟨_,.none⟩
 |_,_,_,.bl b,r=>by cases r; exact ⟨_,.bool b⟩
 |_,_,_,.int i,r=>by obtain ⟨t,rfl⟩:=r; exact ⟨_,.int i t⟩
 |_,_,_,.str x,r=>by obtain ⟨t,rfl⟩:=r; exact ⟨_,.str x t⟩
 |_,_,_,.lst h q,r=>by
  cases r
  obtain ⟨its,r',pl,hz⟩:=I.list h;obtain ⟨as,ra⟩:=Dps.reads I q r';obtain ⟨o,n,ho,hc,_,hd⟩:=pl;exact ⟨_,.list ho hc hd ra⟩
 |_,_,_,.tup h q,r=>by
  cases r
  obtain ⟨its,r',pl,hz⟩:=I.tuple h;obtain ⟨as,ra⟩:=Dps.reads I q r';obtain ⟨o,ho,hc,n,hd⟩:=pl;exact ⟨_,.tuple ho hc hd ra⟩
theorem Dps.reads (I:Inv X pins σ H s):∀ {xs:List V} {ds:List PyData} {us:List Value},Dps X.K H xs ds->Vals xs us->∃ as,ReadsAll s.heap us ds as
 |_,_,_,.nil,r=>by cases r; exact ⟨_,.nil⟩
 |_,_,_,.cons h q,r=>by
  cases r with
  |cons a b=>
   obtain ⟨as,ra⟩:=Dp.reads I h a;obtain ⟨bs,rb⟩:=Dps.reads I q b;exact ⟨_,.cons ra rb⟩
end
noncomputable def rDp (K:Frag) (g:Bool->Bool):V->V->Hp->VK->Prop:=λx y H Q=>∃ dx dy,Dp K H x dx/\Dp K H y dy/\dx.canLay0=true/\dy.canLay0=true/\min dx.depth dy.depth<=60/\Q (.bl (g (PyData.eqv dx dy))) H
theorem op_eqD {K:Frag} (hK:X.K=K) (hu:X.A.units+100 < cLine):OpR X (compareOp .Eq) (rDp K id):=by
 subst hK;intro pins s σ H x y v u Q I rx ry h;obtain ⟨dx,dy,hx,hy,cx,cy,dep,q⟩:=h;obtain ⟨as,ra⟩:=hx.reads I rx;obtain ⟨bs,rb⟩:=hy.reads I ry;exact SeqAt.compareEq_reads ra rb cx cy (by omega) ⟨.bl (PyData.eqv dx dy),H,I,rfl,q⟩
theorem op_neD {K:Frag} (hK:X.K=K) (hu:X.A.units+100 < cLine):OpR X (compareOp .NotEq) (rDp K not):=by
 subst hK;intro pins s σ H x y v u Q I rx ry h;obtain ⟨dx,dy,hx,hy,cx,cy,dep,q⟩:=h;obtain ⟨as,ra⟩:=hx.reads I rx;obtain ⟨bs,rb⟩:=hy.reads I ry;exact SeqAt.compareNe_reads ra rb cx cy (by omega) ⟨.bl (!PyData.eqv dx dy),H,I,rfl,q⟩
end
end Kw
namespace Kw
open PySem PySem.Spec PyProof.Rows L2
section
variable {X:Cx} {pos:Pos} {k v:Expr} {x:Str} {i:Int}
end
section
variable {X:Cx}
end
section
variable {K:Frag} {H H':Hp} {v:V} {t:Value}
end
section
variable {X:Cx} {k k':Nat} {x:Str} {ps:List Str} {sp:Sp} {E:XK} {p pos:Pos} {e:Expr} {es:List Expr} {t:TA} {dv:V}
end
end Kw
namespace Kw
end Kw
namespace Kw
open PySem PySem.Spec PyProof.Rows L2
theorem newO {H:Hp} {p:Addr} (hp:H p=none) (o:HO):∃ H',upd H p o=H'/\Same H H'/\H' p=some o:=⟨_,rfl,Zv hp o,zw⟩
end Kw
theorem Kw.u100 {k:Nat} {A:PySem.Around} (r:L2.Room k A):A.units+100 < PySem.cLine:=by have:=r.un; omega
namespace Kw
open PySem PySem.Spec PyProof.Rows L2
theorem iteFz {c:Bool} {A B:Prop} (h:c=false) (q:B):if c=true then A else B:=by
 subst h;exact iteF q
theorem cut1 {s1 r:TS} {D:Ends} {σ:L2.St} {H:Hp} (P:L2.St->Hp->Prop) (h:∀ N:L2.St->Hp->Prop,(∀ σ' H',P σ' H'->N σ' H')->s1 {D with nx:=N} σ H) (rest:∀ σ' H',P σ' H'->r D σ' H') :
  tSeq s1 r D σ H:=h (r D) rest
noncomputable def cxC (X:Cx) (N:List Str) (scope:Scope) (cl:List (Str × Addr)) (C:Addr) (s:Shared) (H:Hp) (fp:List Addr):Cx:=
 {X with N:=N,s₀:=s,H₀:=H,env:=compEnvC scope cl C X.env,outer:=X.stack,stack:=X.stack,ex:=fp,fn:=λ_=>false,pn:=[],xe:=λ_ _=>False}
section
variable {X:Cx} {pins:List (Addr × Obj)} {σ:L2.St} {H:Hp} {s:Shared} {N ns:List Str} {scope:Scope} {cl:List (Str × Addr)} {C:Addr} {fp:List Addr} {x:Str} {idx:List Nat}
theorem okC (I:Inv X pins σ H s) (f:∀ b∈fp,FpOk X pins H b) (lt:∀ b∈fp,b < s.heap.objs.size) (hC:s.heap.objs.size<=C) (hkind:scope.kind=.function) (hcl:∀ y c,cl.lookup y=some c->X.env.cells.lookup y=some c)
  (hfr:∀ y,((compEnvC scope cl C X.env).kindOf y=some .cell\/(compEnvC scope cl C X.env).kindOf y=some .free)->∃ c,cl.lookup y=some c):(cxC X N scope cl C s H fp).Ok where
 mod:=I.ok.mod
 kind:=hkind
 glob:=I.ok.glob
 blt:=I.ok.blt
 above:=hC
 inj:=λx y c e1 e2=>I.ok.inj x y c (hcl _ _ e1) (hcl _ _ e2)
 has:=hfr
 cab:=λ_ _ h=>nomatch h
 hd:=I.ok.hd
 frames:=I.ok.frames
 stk:=.inl rfl
 exf:=λb hb=>⟨Nat.ne_of_lt (Nat.lt_of_lt_of_le (lt b hb) hC),λx c e=>(f b hb).2.2.2.2.1 x c (hcl _ _ e)⟩
 bs:=I.bs
 bsz:=Nat.le_trans I.ok.bsz I.sz
 noex:=λb o e hb=>by
  rcases (f b hb).2.2.2.1 with z|z
  ·exact I.ok.noex b o e z
  ·exact absurd (Nat.lt_of_lt_of_le (Heap.lt_size e) (Nat.le_trans I.ok.bsz z)) (Nat.lt_irrefl _)
 exfs:=λb hb hs=>by
  rcases List.mem_cons.mp (I.stkSub b hs) with z|z
  ·exact (f b hb).2.1 z
  ·exact (f b hb).2.2.1 z
 funs:=I.stack
 frf:=I.stkFree
noncomputable def Capt (X:Cx) (scope:Scope) (cl:List (Str × Addr)) (ns:List Str) (idx:List Nat):Prop:=
 idx.length=ns.length/\∀ (k:Nat) (y:Str),ns[k]?=some y->∃ j c,idx[k]?=some j/\X.N[j]?=some y/\X.env.kindOf y=some .cell/\X.env.cells.lookup y=some c/\cl.lookup y=some c/\((relabel scope X.env).names.lookup y=some .cell\/(relabel scope X.env).names.lookup y=some .free)
noncomputable def stIn (v:Option V) (idx:List Nat) (σ:L2.St):L2.St:=v::idx.map λj=>(σ[j]?).join
theorem invC {D:Addr} {h1:Heap} {t:Nat} {o:Obj} {mC:Str->Option Value} (I:Inv X pins σ H s) (ok:(cxC X (x::ns) scope cl C s H fp).Ok) (cap:Capt X scope cl ns idx) (hcl:∀ y c,cl.lookup y=some c->X.env.cells.lookup y=some c)
  (keep:∀ b u,s.heap.get? b=some u->h1.get? b=some u) (hC:s.heap.objs.size<=C) (hns:h1.Ns C mC) (hD:h1.get? D=some o) (hDs:s.heap.objs.size<=D) (hDC:D≠C) (hod:∀ v,o.data≠.cell v) (hx:(relabel scope X.env).names.lookup x=some .local) :
  Inv (cxC X (x::ns) scope cl C s H fp) [(D,o)] (stIn none idx σ) H {s with heap:=h1,toks:=t}:=by
 have cellK:∀ y c,cl.lookup y=some c->∀ v,s.heap.IsCell c v->h1.IsCell c v:=λy c e v ⟨o,ho,hd⟩=>⟨o,keep _ _ ho,hd⟩
 refine ⟨ok,rfl,I.bare,Un.kept keep,⟨mC,hns,λi y v e1 e2 e3=>?_⟩,λy c e=>?_,I.hok.fresh hC,λy c e=>I.freeC y c (hcl y c e),λp hp=>?_,I.hok.kept keep,?_⟩
 ·cases i with
  |zero=>cases e2
  |succ k=>
   have iz:ns[k]?=some y:=e1;obtain ⟨j,c,eY,h2,h3,h4,h5,h6⟩:=cap.2 k y iz;have dM:(idx.map λj=>(σ[j]?).join)[k]?=some (some v):=e2
   rw [List.getElem?_map,eY] at dM;have e4:(σ[j]?).join=some v:=Option.some.inj dM;have e5:σ[j]?=some (some v):=by
    cases q:σ[j]? with
    |none=>rw [q] at e4; cases e4
    |some z=>rw [q] at e4; exact congrArg some e4
   obtain ⟨m,hn,hl⟩:=I.loc;obtain ⟨u,r,lk⟩:=hl j y v h2 e5 (.inr (.inl h3));refine ⟨u,r,.inr ⟨h6,c,h5,?_⟩⟩;rcases lk with ⟨z,_⟩|⟨_,c',z,ic⟩
   ·rw [h3] at z; cases z
   ·rw [h4] at z; cases z
    exact cellK y c h5 _ ic
 ·obtain ⟨v,ic⟩:=I.cell y c (hcl y c e);exact ⟨v,cellK y c e v ic⟩
 ·have e:p=(D,o):=by simpa [cxC] using hp
  subst e;refine ⟨hD,I.hok.fresh hDs,hDC,λhs=>?_,hod⟩
  obtain ⟨_,o',ho',_⟩:=I.stack.mem hs;exact absurd (Heap.lt_size ho') (Nat.not_lt.mpr hDs)
 ·unfold stIn;rw [List.length_cons,List.length_map,cap.1];rfl
end
noncomputable abbrev NoE:Value->Shared->Prop:=λ_ _=>False
noncomputable abbrev testsOf (ifs:List Expr) (env:Env):Sem Bool:=forIn ifs true λc r=>if r=true then do let ok <- isTrue c env (eval c env); pure (ForInStep.yield ok) else pure (ForInStep.yield r)
noncomputable def PTs (X:Cx) (ifs:List Expr) (t:TT):Prop:=
 ∀ (pins:List (Addr × Obj)) (s:Shared) (σ:L2.St) (H:Hp) (Q:Bool->Hp->Prop),Inv X pins σ H s->t σ H Q->wpAny (model X.prog X.w) X.A (testsOf ifs X.env) (TP X pins σ Q) X.xe s
noncomputable def ttNil:TT:=λ_ H Q=>Q true H
theorem Jo {X:Cx}:PTs X [] ttNil:=λ_ _ _ H _ I h=>wpAny_tests_nil ⟨H,I,h⟩
theorem Y8 {X:Cx} {c:Expr} {t:TT} (h:PT X c t):PTs X [c] t:=λpins s σ H Q I q=>wpAny_tests_one (h pins s σ H Q I q)
theorem lc_loop {prog:Program} {w:World} {A:Around} {R:Result->Shared->Prop} {s:Shared} {elt target iter:Expr} {ifs:List Expr} {scope:Scope} {pos:Pos} {it acc:Value} {env:Env} (Z:Nat->Shared->Prop)
  (turn:∀ n z,Z n z->wpAny (model prog w) A (pyNext it) (λr z1=>match r with
   |none=>R (.ok .next) z1
   |some v=>wpAny (model prog w) A (letOwnedTupleGo target it v) (λ_ z2=>wpAny (model prog w) A (assign target env v) (λ_ z3=>wpAny (model prog w) A (testsOf ifs env) (λok z4=>if ok=true then
     wpAny (model prog w) A (eval elt env) (λy z5=>wpAny (model prog w) A (call (.builtin "list.append") [acc,y]) (λ_ z6=>∃ m,m < n/\Z m z6) NoE z5) NoE z4 else ∃ m,m < n/\Z m z4) NoE z3) NoE z2) NoE z1) NoE z)
  (n:Nat) (h:Z n s):codeAny (model prog w) A (.compLoop (.ListComp elt [⟨target,iter,ifs,0⟩] scope pos) 0 it acc env) R s:=by
 refine codeAny_loop rfl Z (λn z hZ=>?_) n h
 show wpAny _ A ((compTurn (.ListComp elt [⟨target,iter,ifs,0⟩] scope pos) 0 it acc env).onRaise (λq=>do noteFrame q env; theTreesLotGoes q)) _ _ z
 refine wpAny_noted ?_;rw [compTurn_list];refine wpAny_bind (wpAny_standAt (wpAny_bind (wpAny_mono (turn n z hZ) (λr z1 k1=>?_) λ_ _ q=>q.elim)))
 cases r with
 |none=>exact wpAny_pure k1
 |some v=>
  refine wpAny_bind (wpAny_mono k1 (λ_ z2 k2=>?_) λ_ _ q=>q.elim)
  refine wpAny_bind (wpAny_mono k2 (λ_ z3 k3=>?_) λ_ _ q=>q.elim)
  refine wpAny_bind (wpAny_mono k3 (λok z4 k4=>?_) λ_ _ q=>q.elim)
  cases ok with
  |false=>exact wpAny_pure ⟨rfl,k4⟩
  |true=>
   refine wpAny_bind (wpAny_bind (wpAny_mono (show wpAny _ _ _ _ _ _ from k4) (λy z5 k5=>?_) λ_ _ q=>q.elim))
   exact wpAny_bind (wpAny_mono k5 (λ_ z6 k6=>wpAny_pure (wpAny_pure ⟨rfl,k6⟩)) λ_ _ q=>q.elim)
noncomputable def YW (J:It) (idx:List Nat) (te:TE) (σ:L2.St) (Q:VK) (H1:Hp):Prop:=∃ W:Nat->Nat->List V->Hp->Prop,(∃ m,W 0 m [] H1)/\∀ i m ys H,W i m ys H->ys.length<=sizeLine/\
 ((J.stop i H/\∀ p,H p=none->Q (.ref p) (upd H p (.lst ys)))\/(J.go i H/\∀ y H',J.yld i H y H'->te (stIn (some y) idx σ) H' λv H2=>∃ m',m' < m/\W (i+1) m' (ys++[v]) H2))
noncomputable def tLc (wi:TI) (idx:List Nat) (te:TE):TE:=λσ H Q=>wi σ H λJ H1=>YW J idx te σ Q H1
noncomputable def jw (J:It) (idx:List Nat) (tt:TT) (te:TE) (σ:L2.St) (Q:VK) (H1:Hp):Prop:=∃ W:Nat->Nat->List V->Hp->Prop,(∃ m,W 0 m [] H1)/\∀ i m ys H,W i m ys H->ys.length<=sizeLine/\
 ((J.stop i H/\∀ p,H p=none->Q (.ref p) (upd H p (.lst ys)))\/(J.go i H/\∀ y H',J.yld i H y H'->tt (stIn (some y) idx σ) H' λb H3=>if b=true then te (stIn (some y) idx σ) H3 λv H2=>∃ m',m' < m/\W (i+1) m' (ys++[v]) H2
  else ∃ m',m' < m/\W (i+1) m' ys H3))
noncomputable def tLcT (wi:TI) (idx:List Nat) (tt:TT) (te:TE):TE:=λσ H Q=>wi σ H λJ H1=>jw J idx tt te σ Q H1
theorem YW.toT {J:It} {idx:List Nat} {te:TE} {σ:L2.St} {Q:VK} {H1:Hp} (h:YW J idx te σ Q H1):jw J idx ttNil te σ Q H1:=by
 obtain ⟨W,w0,turn⟩:=h;refine ⟨W,w0,λi m ys H w=>?_⟩
 obtain ⟨hz,h⟩:=turn i m ys H w;refine ⟨hz,h.imp id λh=>⟨h.1,λy H' yl=>?_⟩⟩
 show (if true=true then te (stIn (some y) idx σ) H' (λv H2=>∃ m',m' < m/\W (i+1) m' (ys++[v]) H2) else ∃ m',m' < m/\W (i+1) m' ys H')
 rw [if_pos rfl];exact h.2 y H' yl
section
variable {X:Cx} {elt iter:Expr} {ifs:List Expr} {x:Str} {px pos:Pos} {scope:Scope} {cl:List (Str × Addr)} {wi:TI} {tt:TT} {te:TE} {ns:List Str} {idx:List Nat}
structure LcEnd (X:Cx) (fp:List Addr) (H2 H4:Hp) (s2 s5:Shared) (C D:Addr) (ys:List V):Prop where
 dn:D=s2.heap.objs.size
 cn:s2.heap.objs.size<=C
 dc:D≠C
 un:Un (frs X.stack) fp H2 H4 s2.heap s5.heap
 hok:HOk X.prog X.w H4 s5.heap
 cf:H4 C=none
 df:H4 D=none
 os:s5.os=s2.os
 bare:AllBare s5.gens
 ns:∃ m,s5.heap.Ns C m
 obj:∃ us,Vals ys us/\s5.heap.get? D=some (LCg.lst us)
 len:ys.length<=sizeLine
theorem lc_main (hc:X.calm=true) (hi:PI X (.Name x px) iter wi) (hclos:closureFor scope X.env=pure cl) (hcell:∀ y∈scope.names,y.2≠.cell) (hkind:scope.kind=.function)
  (hnames:∀ y∈scope.names,y.2=.local->scope.names.lookup y.1=some .local) (hx:scope.names.lookup x=some .local) (nd:(x::ns).Nodup) (cap:Capt X scope cl ns idx)
  (hcl:∀ y c,cl.lookup y=some c->X.env.cells.lookup y=some c) (hfr:∀ y,((relabel scope X.env).names.lookup y=some .cell\/(relabel scope X.env).names.lookup y=some .free)->∃ c,cl.lookup y=some c)
  (htt:∀ (C:Addr) (s:Shared) (H:Hp) (fp:List Addr),PTs (cxC X (x::ns) scope cl C s H fp) ifs tt) (hel:∀ (C:Addr) (s:Shared) (H:Hp) (fp:List Addr),PE (cxC X (x::ns) scope cl C s H fp) elt te)
  {pins:List (Addr × Obj)} {σ:L2.St} {Q:VK} {itv:Value} {s2:Shared} {E:Value->Shared->Prop} {RR:Value->Addr->Result->Shared->Prop} (h2:PIE X pins σ (.Name x px) (λJ H1=>jw J idx tt te σ Q H1) itv s2)
  (hRR:∀ fp H2 H4 s5 C D ys,Inv X pins σ H2 s2->(∀ b∈fp,FpOk X pins H2 b)->LcEnd X fp H2 H4 s2 s5 C D ys->Q (.ref D) (upd H4 D (.lst ys))->RR (.ref D) C (.ok .next) s5) :
  wpAny (model X.prog X.w) X.A (newList []) (λacc s3=>wpAny (model X.prog X.w) X.A (newFunctionEnv scope X.env.globals cl [] X.env.qual none .none (some X.env)) (λcenv s4=>
   codeAny (model X.prog X.w) X.A (.compStart (.ListComp elt [⟨.Name x px,iter,ifs,0⟩] scope pos) 0 itv acc {cenv with scope:=relabel scope X.env}) (RR acc cenv.locals) s4) E s3) E s2:=by
 obtain ⟨it,fp,tn,J,H2,e,I2,T,eX,f2,W,⟨m0,w0⟩,turn⟩:=h2;subst e;refine wpAny_newObj_type (wpAny_newFunctionEnv hcell (by intro y hy; simp at hy) (λh1 de cE=>?_) hkind)
 dsimp only at de cE ⊢;generalize gj:s2.heap.push {cls:=.type "list",dict:=none,data:=.seq ([]:List Value).toArray}=g2 at de cE ⊢;have hC:g2.objs.size=s2.heap.objs.size+1:=by rw [<- gj,Heap.size_push]
 have hDC:s2.heap.objs.size≠g2.objs.size:=by rw [hC]; exact Nat.ne_of_lt (Nat.lt_succ_self _)
 have hCle:s2.heap.objs.size<=g2.objs.size:=by rw [hC]; exact Nat.le_succ _
 have bK:∀ b o,s2.heap.get? b=some o->h1.get? b=some o:=λb o e=>cE.extBut b o (Nat.ne_of_lt (Nat.lt_of_lt_of_le (Heap.lt_size e) hCle)) (Heap.get?_push_of_some _ (gj▸Heap.get?_push_of_some _ e))
 have hacc:h1.get? s2.heap.objs.size=some {cls:=.type "list",data:=.seq ([]:List Value).toArray 0}:=cE.extBut _ _ hDC (Heap.get?_push_of_some _ (gj▸Heap.get?_push_size _ rfl));have lt:∀ b∈fp,b < s2.heap.objs.size:=λb hb=>by
  obtain ⟨o,e,_⟩:=T.obj _ _ eX b hb;exact Heap.lt_size e
 have hxr:(relabel scope X.env).names.lookup x=some .local:=lookup_relabel_local hx;have ok:=okC (N:=x::ns) (scope:=scope) (cl:=cl) (C:=g2.objs.size) I2 f2 lt hCle hkind hcl hfr;have I3:=invC (D:=s2.heap.objs.size) (t:=s2.toks+([]:List (Str × Value)).length) I2 ok cap hcl bK hCle de hacc (Nat.le_refl _) hDC (λv z=>by cases z) hxr
 have fC:∀ {H':Hp} {pl:List (Addr × Obj)},(∀ p∈pl,p.1=s2.heap.objs.size)->(∀ b∈fp,H' b=none)->∀ b∈fp,FpOk (cxC X (x::ns) scope cl g2.objs.size s2 H2 fp) pl H' b:=λ{H' pl} hpl hn b hb=>
  ⟨hn b hb,(ok.exf b hb).1,λz=>ok.exfs b hb z,.inl hb,(ok.exf b hb).2,λp hp z=>by
   have q:=hpl p (by simpa [cxC] using hp)
   have:=lt b hb;rw [<- z,q] at this
   exact Nat.lt_irrefl _ this⟩
 have lnc:∀ us:List Value,∀ v,(LCg.lst us).data≠.cell v:=λus v z=>by cases z
 have loop:∀ s3:Shared,s3={s2 with heap:=h1,toks:=s2.toks+([]:List (Str × Value)).length}->
   codeAny (model X.prog X.w) X.A (.compLoop (.ListComp elt [⟨.Name x px,iter,ifs,0⟩] scope pos) 0 (.ref it) (.ref s2.heap.objs.size) (compEnvC scope cl g2.objs.size X.env))
    (RR (.ref s2.heap.objs.size) g2.objs.size) s3:=by
  rintro s3 rfl;refine lc_loop (λn s'=>∃ i ys us r H',Inv (cxC X (x::ns) scope cl g2.objs.size s2 H2 fp) [(s2.heap.objs.size,LCg.lst us)] (stIn r idx σ) H' s'/\tn i s'.heap/\(∀ b∈fp,H' b=none)/\Vals ys us/\W i n ys H') ?_ m0
   ⟨0,[],[],none,H2,I3,T.keep _ _ _ eX λb _ o e=>bK b o e,λb hb=>(f2 b hb).1,.nil,w0⟩
  rintro n s4 ⟨i,ys,us,r,H4,I4,st4,fr4,vs4,w4⟩;obtain ⟨hz,⟨stop,qn⟩|⟨go,step⟩⟩:=turn i n ys H4 w4
  ·refine thn (T.done (cxC X (x::ns) scope cl g2.objs.size s2 H2 fp) rfl rfl rfl hc i _ s4 _ H4 NoE I4 (fC (λp hp=>by rw [List.mem_singleton.mp hp]) fr4) st4 stop) λr5 s5 zz=>?_
   obtain ⟨eh,I5⟩:=zz;subst eh;obtain ⟨mC,hnC,_⟩:=I5.loc;obtain ⟨dN,cQ,_⟩:=I5.pin (s2.heap.objs.size,LCg.lst us) (List.mem_append_right _ (List.mem_singleton.mpr rfl));exact hRR fp H2 H4 s5 g2.objs.size s2.heap.objs.size ys I2 f2 ⟨rfl,hCle,hDC,I5.base,I5.hok,I5.free,cQ,I5.os,I5.bare,⟨mC,hnC⟩,⟨us,vs4,dN⟩,hz⟩ (qn _ cQ)
  ·refine thn (T.item (cxC X (x::ns) scope cl g2.objs.size s2 H2 fp) rfl rfl rfl hc i _ s4 _ H4 NoE I4 (fC (λp hp=>by rw [List.mem_singleton.mp hp]) fr4) st4 go) λr5 s5 zz=>?_
   obtain ⟨u,eh,k5⟩:=zz;subst eh;refine thn k5 λ_ s6 zz=>?_
   obtain ⟨y,H6,I6,r6,y6,eB,fr6⟩:=zz;have oG:=I6.pinned (fC (λp hp=>by rw [List.mem_singleton.mp hp]) fr6) (T.obj _ _ eB)
   have G:=zV (X:=cxC X (x::ns) scope cl g2.objs.size s2 H2 fp) (pos:=px) (i:=0) (x:=x) nd rfl (.inl hxr) (.inr hxr);refine thn (G _ s6 _ H6 y u (λσ' H'=>σ'=stIn (some y) idx σ/\H'=H6) oG r6 ⟨rfl,rfl⟩) λ_ s7 zz=>?_
   obtain ⟨σ7,H7,I7,e7,eH⟩:=zz;subst e7 eH;refine thn (htt g2.objs.size s2 H2 fp _ s7 _ _ _ I7 (step y _ y6)) λok fR zz=>?_
   obtain ⟨fS,eZ,gl⟩:=zz;cases ok with
   |false=>
    obtain ⟨m',lm,w8⟩:=(show ∃ m',m' < n/\W (i+1) m' ys fS from gl);have kf:∀ b∈fp,∀ o,s6.heap.get? b=some o->fR.heap.get? b=some o/\fS b=none:=λb hb o e=>by
     have q:=eZ.pin (b,o) (List.mem_append_right _ (List.mem_append_right _ (jD hb e)));exact ⟨q.1,q.2.1⟩
    obtain ⟨dN,cQ,fe,pD4,_⟩:=eZ.pin (s2.heap.objs.size,LCg.lst us) (by simp [cxC])
    refine ⟨m',lm,i+1,ys,us,some y,fS,eZ.pins_of λp hp=>?_,?_,λb hb=>?_,vs4,w8⟩
    ·rw [List.mem_singleton.mp hp];exact ⟨dN,cQ,fe,pD4,lnc _⟩
    ·exact T.keep _ _ _ eB λb hb o e=>(kf b hb o e).1
    ·obtain ⟨o,e,_⟩:=T.obj _ _ eB b hb;exact (kf b hb o e).2
   |true=>
   refine thn (hel g2.objs.size s2 H2 fp _ fR _ _ _ eZ gl) λy8 s8 zz=>?_
   obtain ⟨v,H8,I8,r8,m',lm,w8⟩:=zz;obtain ⟨dN,cQ,fe,pD4,_⟩:=I8.pin (s2.heap.objs.size,LCg.lst us) (by simp [cxC])
   have kf:∀ b∈fp,∀ o,s6.heap.get? b=some o->s8.heap.get? b=some o/\H8 b=none:=λb hb o e=>by
    have q:=I8.pin (b,o) (List.mem_append_right _ (List.mem_append_right _ (jD hb e)));exact ⟨q.1,q.2.1⟩
   refine append_at (hsz:=by show us.toArray.size<=sizeLine; rw [List.size_toArray,<- vs4.length]; exact hz) dN λh9 iA oH=>?_
   have oI:Inv (cxC X (x::ns) scope cl g2.objs.size s2 H2 fp) [] (stIn (some y) idx σ) H8 s8:=I8.pins_of λp hp=>nomatch hp
   have I9:=oI.turned (it:=s2.heap.objs.size) (h':=h9) (t':=s8.toks) (λb o hb e=>(iA.2 b hb).trans e) cQ fe (.inr (Nat.le_refl _)) (λy c e z=>by
     obtain ⟨v,q⟩:=I2.cell y c (hcl y c e)
     exact absurd q.lt (by rw [z]; exact Nat.lt_irrefl _)) (λp hp=>by simp [cxC] at hp)
   refine ⟨m',lm,i+1,ys++[v],us++[y8],some y,H8,I9.pins_of λp hp=>?_,?_,λb hb=>?_,vs4.append (.cons r8 .nil),w8⟩
   ·rw [List.mem_singleton.mp hp];exact ⟨oH.trans (congrArg some (LCg.lst_snoc us y8)),cQ,fe,pD4,lnc _⟩
   ·exact T.keep _ _ _ eB λb hb o e=>(iA.2 b (Nat.ne_of_lt (lt b hb))).trans (kf b hb o e).1
   ·obtain ⟨o,e,_⟩:=T.obj _ _ eB b hb;exact (kf b hb o e).2
 exact codeAny_compStart_list (loop _ rfl) (T.self _ 0 _ _ _ (T.keep _ _ _ eX λb _ o e=>bK b o e) (loop _ rfl))
theorem LcEnd.inv {fp:List Addr} {H2 H4:Hp} {s2 s5:Shared} {C D:Addr} {ys:List V} {pins:List (Addr × Obj)} {σ:L2.St} {h':Heap} (L:LcEnd X fp H2 H4 s2 s5 C D ys) (I2:Inv X pins σ H2 s2) (f2:∀ b∈fp,FpOk X pins H2 b) (sb:Heap.SameBut C s5.heap h') :
  Inv X pins σ (upd H4 D (.lst ys)) {s5 with heap:=h'}:=by
 obtain ⟨rfl,hCle,hDC,U,hok,cf,cQ,eo,bare,⟨mC,hnC⟩,⟨us,vs4,dN⟩,hz⟩:=L;have neC:∀ b o,s2.heap.get? b=some o->b≠C:=λb o e=>Nat.ne_of_lt (Nat.lt_of_lt_of_le (Heap.lt_size e) hCle)
 have U':Un (frs X.stack) fp H2 H4 s2.heap h':=⟨λb o e n hb hx=>(sb.2 b (neC b o e)).trans (U.keep b o e n hb hx),λb o e n hb hx=>by
   obtain ⟨sl,q⟩:=U.slot b o e n hb hx;exact ⟨sl,(sb.2 b (neC b o e)).trans q⟩,U.free,λb o e hx=>by
   obtain ⟨o',q⟩:=U.there b o e hx
   exact ⟨o',(sb.2 b (neC b o e)).trans q⟩,U.tups,U.frzs,U.tbls⟩
 have hok':HOk X.prog X.w H4 h':=λa o e=>by
  refine (hok a o e).stay (λb u hb q=>(sb.2 b ?_).trans q) (λ_ z=>z) λ_ _ z=>z
  rintro rfl;rcases hb with hb|hb
  ·rw [<- hb,cf] at e; cases e
  ·rw [cf] at hb; cases hb
 have I6:=I2.call (ch:=fp) (h':=h') (g':=s5.gens) (t':=s5.toks) (d':=s5.drawn) U' hok' bare λb hb=>⟨(f2 b hb).2.2.2.1,(f2 b hb).2.1,(f2 b hb).2.2.2.2.1,(f2 b hb).2.2.2.2.2⟩
 have I7:=Inv.adopt (x:=s2.heap.objs.size) (o:=.lst ys) (λy c e z=>by
   obtain ⟨v,q⟩:=I2.cell y c e;exact absurd q.lt (by rw [z]; exact Nat.lt_irrefl _)) I6 (Heap.get?_none_of_le I2.sz) cQ (Nat.ne_of_gt I2.lt) (λp hp z=>by
   have:=Heap.lt_size (I2.pin p hp).1;rw [z] at this
   exact Nat.lt_irrefl _ this) ⟨hz,us,us.length,vs4,(sb.2 _ hDC).trans dN⟩
 rw [<- eo] at I7;exact I7
theorem pie_toT {pins:List (Addr × Obj)} {σ:L2.St} {tg:Expr} {Q:VK} {itv:Value} {s2:Shared} (h:PIE X pins σ tg (λJ H1=>YW J idx te σ Q H1) itv s2):PIE X pins σ tg (λJ H1=>jw J idx ttNil te σ Q H1) itv s2:=by
 obtain ⟨it,fp,tn,J,H',a,b,c,d,e,q⟩:=h;exact ⟨it,fp,tn,J,H',a,b,c,d,e,q.toT⟩
theorem pe_lcT (hc:X.calm=true) (hi:PI X (.Name x px) iter wi) (hclos:closureFor scope X.env=pure cl) (hcell:∀ y∈scope.names,y.2≠.cell) (hkind:scope.kind=.function)
  (hnames:∀ y∈scope.names,y.2=.local->scope.names.lookup y.1=some .local) (hx:scope.names.lookup x=some .local) (nd:(x::ns).Nodup) (cap:Capt X scope cl ns idx)
  (hcl:∀ y c,cl.lookup y=some c->X.env.cells.lookup y=some c) (hfr:∀ y,((relabel scope X.env).names.lookup y=some .cell\/(relabel scope X.env).names.lookup y=some .free)->∃ c,cl.lookup y=some c)
  (htt:∀ (C:Addr) (s:Shared) (H:Hp) (fp:List Addr),PTs (cxC X (x::ns) scope cl C s H fp) ifs tt) (hel:∀ (C:Addr) (s:Shared) (H:Hp) (fp:List Addr),PE (cxC X (x::ns) scope cl C s H fp) elt te) (hs:∀ v,foldedSetIterable iter X.env v=pure v:=by intro _; rfl) :
  PE X (.ListComp elt [⟨.Name x px,iter,ifs,0⟩] scope pos) (tLcT wi idx tt te):=by
 intro pins s σ H Q I h;rw [eval_ListComp];refine wpAny_comprehension_free (use:=none) rfl hs hclos hkind hnames (thn (hi pins s σ H _ I h) λv s1 h1=>thn h1 λitv s2 h2=>?_)
 refine lc_main hc hi hclos hcell hkind hnames hx nd cap hcl hfr htt hel (RR:=λacc C=>compPost (model X.prog X.w) X.A X.xe none (EP X pins σ Q) acc C) h2 λfp H2 H4 s5 C D ys I2 f2 L q=>?_
 obtain ⟨mC,hnC⟩:=L.ns;exact ⟨mC,hnC,λh' sb=>⟨.ref D,_,L.inv I2 f2 sb,rfl,q⟩⟩
theorem ps_lcT {j:Nat} {y:Str} {py spos:Pos} (hN:X.N.Nodup) (hj:X.N[j]?=some y) (hy:X.env.scope.names.lookup y=some .local) (hsw:swapsWith (.ListComp elt [⟨.Name x px,iter,ifs,0⟩] scope pos) (some (.Name y py)) spos.line X.env=pure true)
  (hc:X.calm=true) (hi:PI X (.Name x px) iter wi) (hclos:closureFor scope X.env=pure cl) (hcell:∀ y∈scope.names,y.2≠.cell) (hkind:scope.kind=.function)
  (hnames:∀ y∈scope.names,y.2=.local->scope.names.lookup y.1=some .local) (hx:scope.names.lookup x=some .local) (nd:(x::ns).Nodup) (cap:Capt X scope cl ns idx)
  (hcl:∀ y c,cl.lookup y=some c->X.env.cells.lookup y=some c) (hfr:∀ y,((relabel scope X.env).names.lookup y=some .cell\/(relabel scope X.env).names.lookup y=some .free)->∃ c,cl.lookup y=some c)
  (htt:∀ (C:Addr) (s:Shared) (H:Hp) (fp:List Addr),PTs (cxC X (x::ns) scope cl C s H fp) ifs tt) (hel:∀ (C:Addr) (s:Shared) (H:Hp) (fp:List Addr),PE (cxC X (x::ns) scope cl C s H fp) elt te) (hs:∀ v,foldedSetIterable iter X.env v=pure v) :
  PS X (.Assign [.Name y py] (.ListComp elt [⟨.Name x px,iter,ifs,0⟩] scope pos) spos) (tAsg (tLcT wi idx tt te) (gName j)):=by
 intro pins s σ H D I h;rw [exec_Assign_Name_used _ _ _ _ hsw];refine wpAny_bind (wpAny_standAt (wpAny_bind ?_));show wpAny _ _ (do let _ <- comprehension (.ListComp elt [⟨.Name x px,iter,ifs,0⟩] scope pos) scope X.env _ (newList []) false (eval iter X.env) (some (assign (.Name y py) X.env))) _ _ s
 refine wpAny_bind (wpAny_mono (wpAny_comprehension_free (use:=some (assign (.Name y py) X.env)) (Q:=λ_ s'=>SP X pins D .next s') rfl hs hclos hkind hnames
  (thn (hi pins s σ H _ I h) λv s1 h1=>thn h1 λitv s2 h2=>?_)) (λ_ s' hq=>wpAny_pure (wpAny_pure hq)) λ_ _ e=>e)
 refine lc_main hc hi hclos hcell hkind hnames hx nd cap hcl hfr htt hel (RR:=λacc C=>compPost (model X.prog X.w) X.A X.xe (some (assign (.Name y py) X.env)) (λ_ s'=>SP X pins D .next s') acc C) h2 λfp H2 H4 s5 C Da ys I2 f2 L q=>?_
 have I7:=L.inv I2 f2 (h':=s5.heap) ⟨rfl,λ_ _=>rfl⟩
 show wpAny _ _ (assign (.Name y py) X.env (.ref Da)) _ _ s5;have cL:C≠X.env.locals:=Nat.ne_of_gt (Nat.lt_of_lt_of_le I2.lt L.cn);have cc:∀ z c,X.env.cells.lookup z=some c->c≠C:=λz c e=>by
  obtain ⟨v,k⟩:=I2.cell z c e;exact Nat.ne_of_lt (Nat.lt_of_lt_of_le k.lt L.cn)
 refine wpAny_assign_Name (store_ok2 I7 hN hj (.inl hy) (v:=.ref Da) rfl (λs8 I8 sm=>?_) (.inr hy))
 obtain ⟨a,sba,ha⟩:=sm;have ac:C≠a:=by
  rcases ha with rfl|ha
  ·exact cL
  ·exact Ne.symm (cc _ _ ha)
 obtain ⟨mC,o,es,ep,e1,e2⟩:=L.ns;refine ⟨mC,⟨o,es,ep,(sba.2 C ac).trans e1,e2⟩,λh' sb=>⟨_,_,?_,q⟩⟩
 refine I8.turned (it:=C) (h':=h') (t':=s8.toks) (λb u nb e=>(sb.2 b nb).trans e) ?_ cL (.inr (Nat.le_trans I2.sz L.cn)) cc λp hp z=>?_
 ·rw [za (Ne.symm L.dc)];exact L.cf
 ·have:=Heap.lt_size (I2.pin p hp).1;rw [z] at this;exact absurd this (Nat.not_lt.mpr L.cn)
theorem Zh (hc:X.calm=true) (hi:PI X (.Name x px) iter wi) (hclos:closureFor scope X.env=pure cl) (hcell:∀ y∈scope.names,y.2≠.cell) (hkind:scope.kind=.function)
  (hnames:∀ y∈scope.names,y.2=.local->scope.names.lookup y.1=some .local) (hx:scope.names.lookup x=some .local) (nd:(x::ns).Nodup) (cap:Capt X scope cl ns idx)
  (hcl:∀ y c,cl.lookup y=some c->X.env.cells.lookup y=some c) (hfr:∀ y,((relabel scope X.env).names.lookup y=some .cell\/(relabel scope X.env).names.lookup y=some .free)->∃ c,cl.lookup y=some c)
  (hel:∀ (C:Addr) (s:Shared) (H:Hp) (fp:List Addr),PE (cxC X (x::ns) scope cl C s H fp) elt te) (hs:∀ v,foldedSetIterable iter X.env v=pure v:=by intro _; rfl) :
  PE X (.ListComp elt [⟨.Name x px,iter,[],0⟩] scope pos) (tLc wi idx te):=by
 intro pins s σ H Q I h;rw [eval_ListComp];refine wpAny_comprehension_free (use:=none) rfl hs hclos hkind hnames (thn (hi pins s σ H _ I h) λv s1 h1=>thn h1 λitv s2 h2=>?_)
 refine lc_main (tt:=ttNil) hc hi hclos hcell hkind hnames hx nd cap hcl hfr (λ_ _ _ _=>Jo) hel (RR:=λacc C=>compPost (model X.prog X.w) X.A X.xe none (EP X pins σ Q) acc C) (pie_toT h2) λfp H2 H4 s5 C D ys I2 f2 L q=>?_
 obtain ⟨mC,hnC⟩:=L.ns;exact ⟨mC,hnC,λh' sb=>⟨.ref D,_,L.inv I2 f2 sb,rfl,q⟩⟩
end
theorem all_range_bl (bs:List Bool):(List.range bs.length).all (λi=>bs.getD i false)=bs.all id:=by
 rw [Bool.eq_iff_iff,List.all_eq_true,List.all_eq_true];constructor
 ·intro h b hb;obtain ⟨i,hi,rfl⟩:=List.mem_iff_getElem.mp hb;have:=h i (List.mem_range.mpr hi);simpa [List.getD,hi] using this
 ·intro h i hi;have hi':=List.mem_range.mp hi;have:=h bs[i] (List.getElem_mem hi');simpa [List.getD,hi'] using this
section
variable {X:Cx}
noncomputable def rAll (K:Frag):List V->Hp->VK->Prop:=λxs H Q=>∃ p,∃ bs:List Bool,xs=[.ref p]/\SqL K H p (bs.map V.bl)/\Q (.bl (bs.all id)) H
theorem call_all {K:Frag} (hK:X.K=K) (hc:X.calm=true):jB X (.builtin "all") (rAll K):=by
 subst hK;intro pins s σ H xs us Q I r h;obtain ⟨p,bs,rfl,hp,q⟩:=h;obtain ⟨u,rfl,rx⟩:=Ze r;cases rx
 obtain ⟨its,r',pl,hz⟩:=I.list hp;have hlen:=r'.length;rw [List.length_map] at hlen;have hlt:p < s.heap.objs.size:=by
  obtain ⟨o,n,e,_⟩:=pl;exact Heap.lt_size e
 refine call_all_walk (wpAny_pyIter_list pl.isList ?_);refine ⟨s.heap.objs.size,[s.heap.objs.size,p],[s.heap.objs.size],its.toArray.size,λi v=>its.toArray[i]?=some v,λi h=>h.IsListIter s.heap.objs.size p i/\h.IsList p its.toArray,λi=>bs.getD i false,rfl,Walks.list (A:=X.A.in1) (I.ok.hd hc) s.heap.objs.size p (Nat.ne_of_lt hlt) its.toArray,⟨⟨_,Heap.get?_push_size _ rfl,rfl,rfl⟩,pl.isList.push _⟩,?_,λh' tk kk=>?_⟩
 ·intro i v z Q' E' hv hq;have hv':its[i]?=some v:=by simpa using hv
  obtain ⟨hi,e⟩:=List.getElem?_eq_some_iff.mp hv';have hi':i < bs.length:=by omega
  have eb:(bs.map V.bl)[i]?=some (V.bl bs[i]):=by rw [List.getElem?_map,List.getElem?_eq_getElem hi']; rfl
  obtain ⟨w',hw,rw'⟩:=r'.get eb;rw [hv'] at hw;cases hw
  cases (show v=Value.bool bs[i] from rw')
  have e2:bs.getD i false=bs[i]:=by simp [List.getD,hi']
  dsimp only at hq;rw [e2] at hq;exact wpAny_truthy_bool hq
 ·rw [List.size_toArray,<- hlen,all_range_bl];refine ⟨.bl (bs.all id),H,I.kept (t':=tk) λb o e=>?_,rfl,q⟩
  exact kk b o (λz=>by
   have e':=List.mem_singleton.mp z;have:=Heap.lt_size e;rw [e'] at this
   exact Nat.lt_irrefl _ this) (Heap.get?_push_of_some _ e)
end
section
variable {prog:Program} {w:World} {A:Around} {E:Value->Shared->Prop} {s:Shared} {I l S:Addr} {items:Array Value}
end
section
variable {X:Cx}
end
noncomputable def Pl:V->Prop
 |.flt _=>False
 |.byt _=>False
 |_=>True
theorem eq_rel {A:Around} {s:Shared} {x:V} {u u':Value} (hx:Pl x) (r:RelV x u) (r':RelV x u'):SeqAt.EqAt A s u u' true:=by
 cases x with
 |non=>cases (show u=Value.none from r); cases (show u'=Value.none from r'); exact SeqAt.EqAt.same _
 |bl b=>cases (show u=Value.bool b from r); cases (show u'=Value.bool b from r'); exact SeqAt.EqAt.same _
 |ref a=>cases (show u=Value.ref a from r); cases (show u'=Value.ref a from r'); exact SeqAt.EqAt.same _
 |ty T=>cases (show u=Value.type T from r); cases (show u'=Value.type T from r'); exact SeqAt.EqAt.same _
 |int i=>
  obtain ⟨t,rfl⟩:=r;obtain ⟨t',rfl⟩:=r';have:=SeqAt.EqAt.int_int (A:=A) (s:=s) i t i t';rwa [beq_self_eq_true] at this
 |str y=>
  obtain ⟨t,rfl⟩:=r;obtain ⟨t',rfl⟩:=r';have:=SeqAt.EqAt.str_str (A:=A) (s:=s) y t y t';rwa [beq_self_eq_true] at this
 |flt f=>exact hx.elim
 |byt f=>exact hx.elim
theorem all_true (n:Nat):(List.range n).all (λ_=>true)=true:=by simp
section
variable {X:Cx}
noncomputable def rNeS (K:Frag):V->V->Hp->VK->Prop:=λx y H Q=>
 ((∃ d,x=y/\Dp K H x d/\d.canLay0=true/\d.depth<=60)\/(∃ a b xs,x=.ref a/\y=.ref b/\SqL K H a xs/\SqL K H b xs/\∀ z∈xs,Pl z)\/(∃ a xs,x=.ref a/\y=.ref a/\SqT K H a xs/\∀ z∈xs,Pl z)\/
  ∃ a k i,x=.ref a/\y=.ref a/\H a=some (.dK [(k,.int i)]))/\Q (.bl false) H
theorem pair_eq {A:Around} {s:Shared} {xs:List V} {its aM:List Value} (h:∀ z∈xs,Pl z) (r:Vals xs its) (r2:Vals xs aM) (j:Nat) (h1:j < its.toArray.size) (h2:j < aM.toArray.size):SeqAt.EqAt A s its.toArray[j] aM.toArray[j] true:=by
 have l1:=r.length;have hj:j < xs.length:=by simp at h1; omega
 have e:=List.getElem?_eq_getElem hj;obtain ⟨u,hu,ru⟩:=r.get e;obtain ⟨u2,hu2,oJ⟩:=r2.get e;have e1:its.toArray[j]=u:=by
  have eY:j < its.length:=by simpa using h1
  rw [List.getElem?_eq_getElem eY] at hu;simpa using Option.some.inj hu
 have e2:aM.toArray[j]=u2:=by
  have iB:j < aM.length:=by simpa using h2
  rw [List.getElem?_eq_getElem iB] at hu2;simpa using Option.some.inj hu2
 rw [e1,e2];exact eq_rel (h _ (List.getElem_mem hj)) ru oJ
theorem op_neS {K:Frag} (hK:X.K=K) (hu:X.A.units+100 < cLine):OpR X (compareOp .NotEq) (rNeS K):=by
 subst hK;intro pins s σ H x y v u Q I rx ry h;obtain ⟨hv,q⟩:=h;have fin:EP X pins σ Q (.bool false) s:=⟨.bl false,H,I,rfl,q⟩;rcases hv with ⟨d,rfl,dp,c1,c2⟩|⟨a,b,xs,rfl,rfl,ha,hb,hp⟩|⟨a,xs,rfl,rfl,ha,hp⟩|⟨a,k,i,rfl,rfl,ha⟩
 ·obtain ⟨as,ra⟩:=dp.reads I rx;obtain ⟨bs,rb⟩:=dp.reads I ry;refine SeqAt.compareNe_reads ra rb c1 c1 (by omega) ?_
  rw [SeqAt.eqv_refl d c1];exact fin
 ·cases (show v=Value.ref a from rx)
  cases (show u=Value.ref b from ry)
  obtain ⟨its,r,pl,hz⟩:=I.list ha;obtain ⟨aM,r2,pl2,hz2⟩:=I.list hb;have l1:=r.length;have l2:=r2.length;have z:=SeqAt.RcNeAt.lists (e:=λ_=>true) pl.isList pl2.isList (by simp; omega) (show X.A.units < cLine by omega) (λj h1 h2=>pair_eq hp r r2 j h1 h2)
  rw [all_true] at z;exact z X.prog X.w X.xe _ fin
 ·cases (show v=Value.ref a from rx)
  cases (show u=Value.ref a from ry)
  obtain ⟨its,r,pl,hz⟩:=I.tuple ha;have z:=SeqAt.RcNeAt.tuples (e:=λ_=>true) pl pl (show X.A.units < cLine by omega) (λj h1 h2=>pair_eq hp r r j h1 h2)
  rw [all_true,beq_self_eq_true] at z;exact z X.prog X.w X.xe _ fin
 ·cases (show v=Value.ref a from rx)
  cases (show u=Value.ref a from ry)
  obtain ⟨hz,hs,vs,kv,dd⟩:=(show zu X.prog X.w H s.heap a (.dK [(k,.int i)]) from I.hok a _ ha);cases kv with
  |@cons p q' ps qs h1 h2=>
   cases h2
   obtain ⟨k',v'⟩:=q';obtain ⟨e1,t,e2⟩:=h1;simp only at e1 e2;subst e1 e2;refine PySem.W.keq_ne (knd:=yF X.prog X.w) (r:=true) hs hs dd dd (show X.A.units < cLine by omega) (λ_=>?_) (by simpa using fin)
   have hy:valueAt [(k,Value.int i t)] k=some (.int i t):=by simp [valueAt]
   exact PySem.W.KeqHits.hit (e:=true) (b:=true) hy (SeqAt.EqAt.same _) .nil
noncomputable def rNeNil (K:Frag):V->V->Hp->VK->Prop:=λx y H Q=>∃ a b xs,x=.ref a/\y=.ref b/\SqL K H a xs/\SqL K H b []/\Q (.bl (!xs.isEmpty)) H
theorem op_neNil {K:Frag} (hK:X.K=K) (hu:X.A.units+100 < cLine):OpR X (compareOp .NotEq) (rNeNil K):=by
 subst hK;intro pins s σ H x y v u Q I rx ry h;obtain ⟨a,b,xs,rfl,rfl,ha,hb,q⟩:=h;cases xs with
 |nil=>exact op_neS rfl hu pins s σ H _ _ v u Q I rx ry ⟨.inr (.inl ⟨a,b,[],rfl,rfl,ha,hb,λ_ z=>nomatch z⟩),q⟩
 |cons z zs=>
  cases (show v=Value.ref a from rx)
  cases (show u=Value.ref b from ry)
  obtain ⟨its,r,pl,hz⟩:=I.list ha;obtain ⟨aM,r2,pl2,hz2⟩:=I.list hb;have l1:=r.length;have l2:=r2.length;have w':=SeqAt.RcNeAt.lists_lengths pl.isList pl2.isList (by simp at l1 l2 ⊢; omega) (show X.A.units < cLine by omega)
  exact w' X.prog X.w X.xe _ ⟨.bl true,H,I,rfl,q⟩
end
noncomputable abbrev FQ (K:Frag) (H:Hp) (p:Addr) (x:Rat):Prop:=SqT K H p [.int x.num,.int ((x.den:Nat):Int)]
section
variable {K:Frag} {H H':Hp} {p q:Addr} {x y:Rat} {m n:Nat}
theorem FQ.cast (h:FQ K H p x) (e:x=y):FQ K H p y:=e▸h
theorem FQ.dp (h:FQ K H p x):Dp K H (.ref p) (.tuple [.int x.num,.int ((x.den:Nat):Int)]):=.tup h (.cons (.int _) (.cons (.int _) .nil))
theorem FQ.fit {t b:Int} (h:b≠0) (e:SqT K H p [.int (fT t b),.int (fB t b)]):FQ K H p (Rat.divInt t b):=by
 obtain ⟨e1,e2⟩:=q_fit (t:=t) h;rw [e1,e2] at e;exact e
theorem FQ.ofNeg {i:Int} (h:SqT K H p [.int i,.int ((x.den:Nat):Int)]) (e:i=-x.num):FQ K H p (-x):=by
 subst e;exact h
noncomputable def FB (n:Nat) (x:Rat):Prop:=Bd n x.num/\Bd n ((x.den:Nat):Int)
theorem FB.mono (h:FB m x) (l:m<=n):FB n x:=⟨h.1.mono l,h.2.mono l⟩
theorem FB.cast (h:FB n x) (e:x=y):FB n y:=e▸h
theorem FB.fit {t b:Int} (h:b≠0) (g1:Bd n t) (g2:Bd n b):FB n (Rat.divInt t b):=by
 obtain ⟨e1,e2⟩:=q_fit (t:=t) h;refine ⟨?_,?_⟩
 ·rw [<- e1]; exact bd_fT h g1
 ·rw [<- e2]; exact bd_fB h g2
theorem q_ne (x:Rat):((x.den:Nat):Int)≠0:=by have:=Yx x; omega
theorem q_num_ne (h:x≠0):x.num≠0:=λe=>h (Rat.num_eq_zero.mp e)
theorem FB.add (h:FB m x) (g:FB n y):FB (m+n+1) (x+y):=by
 rw [<- q_add];exact FB.fit (Int.mul_ne_zero (q_ne x) (q_ne y)) ((h.1.mul g.2).add ((g.1.mul h.2).mono (by omega))) ((h.2.mul g.2).mono (by omega))
theorem FB.sub (h:FB m x) (g:FB n y):FB (m+n+1) (x - y):=by
 rw [<- q_sub];exact FB.fit (Int.mul_ne_zero (q_ne x) (q_ne y)) ((h.1.mul g.2).sub ((g.1.mul h.2).mono (by omega))) ((h.2.mul g.2).mono (by omega))
theorem FB.mul (h:FB m x) (g:FB n y):FB (m+n) (x * y):=by
 rw [<- q_mul];exact FB.fit (Int.mul_ne_zero (q_ne x) (q_ne y)) (h.1.mul g.1) (h.2.mul g.2)
theorem FB.neg (h:FB n x):FB n (-x):=by
 refine ⟨?_,h.2⟩;have:=h.1;unfold Bd at this ⊢;rw [(q_neg x).1];omega
theorem FB.ofInt {i:Int} (h:Bd n i) (l:64<=n):FB n (i:Rat):=⟨h,(Bd.small (i:=1) (by decide) (by decide)).mono l⟩
theorem ZY {b g:Int} (hb:Bd n b) (d:g ∣ b) (g0:g≠0):Bd n (b.fdiv g):=by
 refine hb.of_le ?_;have e:=y9 d;have q:=ZG (x:=b.fdiv g) g0;rw [e] at q;exact q
theorem Jh {a b:Int} (h:b≠0) (hb:Bd n b):Bd n ((Int.gcd a b:Nat):Int):=by
 refine hb.of_le ?_;have hd:Int.gcd a b ∣ b.natAbs:=Nat.gcd_dvd_right _ _;have:=Nat.le_of_dvd (by omega) hd
 omega
end
theorem But.fresh {b:Addr} {H H':Hp} (h:H b=none) (s:But b H H'):Same H H':=λa o e=>s a o (zN e h) e
theorem Ji (ns:List Int) (d:Int) (lo:0<=d) (hi:d < (ns.length:Int)):∃ v,atI (ns.map V.int) d=some (.int v)/\v∈ns:=by
 have hk:d.toNat < ns.length:=by omega
 have ek:d=((d.toNat:Nat):Int):=by omega
 have z:atI (ns.map V.int) ((d.toNat:Nat):Int)=some (.int ns[d.toNat]):=yA (by rw [List.getElem?_map,List.getElem?_eq_getElem hk]<;>rfl)
 rw [<- ek] at z;exact ⟨_,z,List.getElem_mem hk⟩
theorem Scr.same {K:Frag} {H H':Hp} {a:Addr} (h:Scr K H a) (s:Same H H'):Scr K H' a:=by
 obtain ⟨ns,x,y⟩:=h;exact ⟨ns,s.seq x,y⟩
theorem Fn.imp {P:Program} {w:World} {K:Frag} {mg:Str->Option Value} {base:Heap} {k:Nat} {x:Str} {ps:List Str} {sp sp':Sp} (F:Fn P w K mg base k x ps sp) (h:∀ vs H Q E,sp' vs H Q E->sp vs H Q E):Fn P w K mg base k x ps sp':=by
 obtain ⟨f,fd,g,r⟩:=F.ex;exact ⟨f,fd,g.imp h,r⟩
theorem Zb {c:Prop} [Decidable c] {A B:Prop} (h1:¬ c->A) (h2:c->B):if (!decide c)=true then A else B:=by
 by_cases e:c
 ·rw [decide_eq_true e]; exact iteF (h2 e)
 ·rw [decide_eq_false e]; exact iteT (h1 e)
section
variable {X:Cx}
noncomputable def rAl (K:Frag) (r:Bool):V->V->Hp->VK->Prop:=λx y H Q=>∃ d,Dp K H x d/\Dp K H y d/\d.canLay0=true/\Nat.ble d.depth 60=true/\Q (.bl r) H
theorem op_neA {K:Frag} (hK:X.K=K) (hu:X.A.units+100 < cLine):OpR X (compareOp .NotEq) (rAl K false):=by
 intro pins s σ H x y v u Q I rx ry h;obtain ⟨d,hx,hy,c,dep,q⟩:=h;refine op_neD hK hu pins s σ H x y v u Q I rx ry ⟨d,d,hx,hy,c,c,?_,?_⟩
 ·have:=Nat.le_of_ble_eq_true dep;omega
 ·rw [SeqAt.eqv_refl d c];exact q
theorem q_list {x y:Rat}:([x.num,((x.den:Nat):Int)]=[y.num,((y.den:Nat):Int)])↔x=y:=by
 constructor
 ·intro e;simp only [List.cons.injEq,and_true] at e;exact Rat.ext e.1 (by omega)
 ·intro e;rw [e]
theorem op_eqQ {K:Frag} (hK:X.K=K) (hu:X.A.units+100 < cLine):OpR X (compareOp .Eq) (λa b H Q=>∃ (p q:Addr) (x y:Rat),a=.ref p/\b=.ref q/\FQ K H p x/\FQ K H q y/\Q (.bl (decide (x=y))) H):=by
 subst hK;intro pins s σ H a b v u Q I rx ry h;obtain ⟨p,q,x,y,rfl,rfl,hx,hy,k⟩:=h;refine op_eqTI (by omega) pins s σ H _ _ v u Q I rx ry ⟨p,q,[x.num,((x.den:Nat):Int)],[y.num,((y.den:Nat):Int)],rfl,rfl,hx,hy,?_⟩
 rw [decide_eq_decide.mpr q_list];exact k
noncomputable def IsTup2 (K:Frag) (H:Hp) (x c:V) (b:Bool):Prop:=IsI K H x c b\/∃ a xs,x=.ref a/\SqT K H a xs/\kitOne K (.type "tuple") (valC c)=some b
theorem Zr {K:Frag} (hK:X.K=K):jB X (.builtin "isinstance") (λxs H Q=>∃ x c b,xs=[x,c]/\((∃ T,c=.ty T)\/∃ C,c=.ref C)/\IsTup2 K H x c b/\Q (.bl b) H):=by
 subst hK;intro pins s σ H xs us Q I r h;obtain ⟨x,c,b,e0,hc,hi,q⟩:=h;rcases hi with hi|⟨a,ys,rfl,ha,e⟩
 ·exact jv pins s σ H xs us Q I r ⟨x,c,b,e0,hc,hi,q⟩
 subst e0;obtain ⟨u,w',rfl,rx,rc⟩:=vals2 r;have ec:w'=valC c:=by
  rcases hc with ⟨T,rfl⟩|⟨C,rfl⟩
  ·exact rc
  ·exact rc
 subst ec;cases (show u=Value.ref a from rx)
 obtain ⟨its,_,⟨o,h1,h2,_⟩,_⟩:=I.tuple ha;exact kia_one PySem.W.kitx_tuple I.kIn ⟨o,h1,h2⟩ e (λz=>nomatch z) λtk=>⟨.bl b,H,I.tok _,rfl,q⟩
end
section
variable {K:Frag} {idx:List Nat} {te:TE} {σ:L2.St} {H:Hp} {Q:VK}
theorem jJ {a:Addr} {xs:List V} (Pv:Nat->List V->Hp->Prop) (h0:Pv 0 [] H) (hz:xs.length<=sizeLine) (hy:∀ i ys H,Pv i ys H->ys.length=i) (hl:∀ i ys H,Pv i ys H->SqL K H a xs)
  (hs:∀ i x ys H (Q':VK),xs[i]?=some x->Pv i ys H->(∀ v H2,Pv (i+1) (ys++[v]) H2->Q' v H2)->te (stIn (some x) idx σ) H Q') (hd:∀ ys H,Pv xs.length ys H->∀ p,H p=none->Q (.ref p) (upd H p (.lst ys))) :
  YW (Itl K a) idx te σ Q H:=by
 refine ⟨λi m ys H=>m=xs.length - i/\i<=xs.length/\Pv i ys H,⟨xs.length,by simp,Nat.zero_le _,h0⟩,?_⟩
 rintro i m ys H ⟨rfl,hi,p⟩;have q:=hl i ys H p;refine ⟨by rw [hy i ys H p]; omega,?_⟩
 by_cases hlt:i < xs.length
 ·refine .inr ⟨⟨xs,xs[i],q,by simp [hlt]⟩,λy H' yl=>?_⟩
  obtain ⟨e,yl⟩:=yl;subst e;exact hs i y ys _ _ (yl xs q) p λv H2 z=>⟨xs.length - (i+1),by omega,rfl,hlt,z⟩
 ·have e:i=xs.length:=by omega
  subst e;exact .inl ⟨⟨xs,q,Nat.le_refl _⟩,hd ys H p⟩
end
theorem jV {names:List (Str × NameKind)} {cl:List (Str × Addr)} (h:names.all (λz=>z.2 != .cell && z.2 != .free)=true):∀ y,(names.lookup y=some .cell\/names.lookup y=some .free)->∃ c,cl.lookup y=some c:=λy hy=>by
 have mem:∀ (l:List (Str × NameKind)) k,l.lookup y=some k->∃ z∈l,z.2=k:=λl=>by
  induction l with
  |nil=>intro k e; cases e
  |cons a r ih=>
   intro k e;rw [List.lookup_cons] at e;split at e
   ·exact ⟨a,List.mem_cons_self,Option.some.inj e⟩
   ·obtain ⟨z,hz,ez⟩:=ih k e;exact ⟨z,List.mem_cons_of_mem _ hz,ez⟩
 rcases hy with e|e
 all_goals
  obtain ⟨z,hz,ez⟩:=mem _ _ e;have:=List.all_eq_true.mp h z hz;rw [ez] at this;simp at this
theorem yx {X:Cx} {scope:Scope} {cl:List (Str × Addr)}:Capt X scope cl [] []:=⟨rfl,λk y h=>by simp at h⟩
section
variable {K:Frag} {H H':Hp} {b:Addr} {v:V}
theorem kit_lst_lst:kitOne K (.type "list") (.type "list")=some true:=by with_unfolding_all rfl
end
section
variable {K:Frag} {H H':Hp} {b c:Addr} {x:V}
end
theorem jA {X:Cx} {scope:Scope} {cl:List (Str × Addr)} {y:Str} {j:Nat} {c:Addr} (h1:X.N[j]?=some y) (h2:X.env.kindOf y=some .cell) (h3:X.env.cells.lookup y=some c) (h4:cl.lookup y=some c)
  (h5:(relabel scope X.env).names.lookup y=some .cell\/(relabel scope X.env).names.lookup y=some .free):Capt X scope cl [y] [j]:=
 ⟨rfl,λk z h=>by
  cases k with
  |zero=>cases h; exact ⟨j,c,rfl,h1,h2,h3,h4,h5⟩
  |succ k=>simp at h⟩
theorem ja {names:List (Str × NameKind)} {cl:List (Str × Addr)} (h:names.all (λz=>(z.2 != .cell && z.2 != .free) || (cl.lookup z.1).isSome)=true):∀ y,(names.lookup y=some .cell\/names.lookup y=some .free)->∃ c,cl.lookup y=some c:=λy hy=>by
 have mem:∀ (l:List (Str × NameKind)) k,l.lookup y=some k->(y,k)∈l:=λl=>by
  induction l with
  |nil=>intro k e; cases e
  |cons a r ih=>
   intro k e;rw [List.lookup_cons] at e;split at e
   ·rename_i q
    have e1:y=a.1:=by simpa using q
    have e2:=Option.some.inj e;rw [e1,<- e2];exact List.mem_cons_self
   ·exact List.mem_cons_of_mem _ (ih k e)
 rcases hy with e|e
 all_goals
  have:=List.all_eq_true.mp h _ (mem _ _ e);exact Option.isSome_iff_exists.mp (by simpa using this)
end Kw
theorem Kw.ixL {X:L2.Cx} {K:Frag} (hK:X.K=K):L2.IxR X (L2.rIxL K):=by
 subst hK;exact L2.ix_list
theorem Kw.ixT {X:L2.Cx} {K:Frag} (hK:X.K=K):L2.IxR X (L2.rIxT K):=by
 subst hK;exact L2.ix_tup
namespace Kw
open PySem PySem.Spec PyProof.Rows L2
section
variable {K:Frag} {H:Hp} {b:Addr} {x:V}
end
noncomputable def Al2 {β:Type} (R:V->β->Prop):List V->List β->Prop
 |[],[]=>True
 |x::xs,b::bs=>R x b/\Al2 R xs bs
 |_,_=>False
section
variable {β:Type} {R R':V->β->Prop}
theorem Al2.imp (h:∀ x b,R x b->R' x b):∀ {xs:List V} {bs:List β},Al2 R xs bs->Al2 R' xs bs
 |[],[],_=>trivial
 |_::_,_::_,z=>⟨h _ _ z.1,Al2.imp h z.2⟩
 |[],_::_,z=>z.elim
 |_::_,[],z=>z.elim
theorem Al2.len:∀ {xs:List V} {bs:List β},Al2 R xs bs->xs.length=bs.length
 |[],[],_=>rfl
 |_::_,_::_,z=>by simp [Al2.len z.2]
 |[],_::_,z=>z.elim
 |_::_,[],z=>z.elim
theorem Al2.get:∀ {xs:List V} {bs:List β} {i:Nat} {x:V},Al2 R xs bs->xs[i]?=some x->∃ b,bs[i]?=some b/\R x b
 |[],_,_,_,_,e=>by simp at e
 |_::_,[],_,_,z,_=>z.elim
 |_::_,b::_,0,_,z,e=>by
  simp only [List.getElem?_cons_zero,Option.some.injEq] at e;subst e;exact ⟨b,rfl,z.1⟩
 |_::_,_::_,i+1,_,z,e=>by
  simp only [List.getElem?_cons_succ] at e;obtain ⟨b,h1,h2⟩:=Al2.get z.2 e;exact ⟨b,by simpa using h1,h2⟩
theorem Al2.snoc:∀ {xs:List V} {bs:List β} {x:V} {b:β},Al2 R xs bs->R x b->Al2 R (xs++[x]) (bs++[b])
 |[],[],_,_,_,h=>⟨h,trivial⟩
 |_::_,_::_,_,_,z,h=>⟨z.1,Al2.snoc z.2 h⟩
 |[],_::_,_,_,z,_=>z.elim
 |_::_,[],_,_,z,_=>z.elim
theorem zU {bs:List β} {i:Nat} {b:β} (h:bs[i]?=some b):bs.take (i+1)=bs.take i++[b]:=by
 rw [List.take_add_one,h];rfl
end
section
variable {K:Frag} {H H':Hp} {n m:Nat} {x:V} {q:Rat} {b:Rat × Rat × Int}
end
noncomputable def sumQ (qs:List Rat):Rat:=qs.foldl (λa b=>a+b) 0
section
variable {X:Cx} {K:Frag}
noncomputable def tGlobT (K:Frag) (t b:Int):TE:=λ_ H Q=>∀ N,(∀ H1,SqT K H1 N [.int t,.int b])->Q (.ref N) H
theorem zr {x:Str} {t b:Int} {pos:Pos} (hK:X.K=K) (hg:Gl X x) (hm:∃ N,X.mg x=some (.ref N)/\∀ H,SqT K H N [.int t,.int b]) (hd:(x == ("__debug__" : Str))=false:=by decide):PE X (.Name x pos) (tGlobT K t b):=by
 obtain ⟨N,hm,hN⟩:=hm;intro pins s σ H Q I h;exact pe_glob hg hm (v:=.ref N) rfl hd pins s σ H Q I (h N hN)
theorem sqt_const {A:Addr} {o:Option Addr} {t b:Int} {k1 k2:Tok} {n:Nat} {sl:Array (Option Value)} (h:K.lookup A=some ⟨.type "tuple",o,.seq #[.int t k1,.int b k2] n,sl⟩):∀ H,SqT K H A [.int t,.int b]:=λH=>
 .inr ⟨_,_,_,h,rfl,rfl,by show 2<=sizeLine; decide,.cons ⟨_,rfl⟩ (.cons ⟨_,rfl⟩ .nil)⟩
end
section
variable {pr:Program} {wd:World} {Ar:Around} {Er:Value->Shared->Prop}
end
section
variable {X:Cx} {pos:Pos}
end
section
variable {K:Frag} {te:TE} {σ:L2.St} {H:Hp} {Q:VK} {idx:List Nat}
end
section
variable {K:Frag} {H H':Hp} {n:Nat} {x:V} {q:Rat} {b:Rat × Rat × Int} {c:Addr} {zs xs:List V} {bs:List (Rat × Rat × Int)}
noncomputable def frD (q:Rat):PyData:=.tuple [.int q.num,.int ((q.den:Nat):Int)]
theorem newB {H:Hp} {p:Addr} (o:HO):∃ H',upd H p o=H'/\But p H H'/\H' p=some o:=⟨_,rfl,but_upd _,zw⟩
theorem YB {H H':Hp} {a c:Addr} (s:But c H H') (h:H' a=none) (n:a≠c):H a=none:=by
 cases e:H a with
 |none=>rfl
 |some o=>have:=s _ _ n e; rw [h] at this; cases this
end
section
end
theorem most_of (ns:List Int) (N:Int) (h:1<=N):∃ m:Int,(if (if N < (((ns.map V.int).length:Nat):Int) then N else (((ns.map V.int).length:Nat):Int)) > 1 then (if N < (((ns.map V.int).length:Nat):Int) then N else (((ns.map V.int).length:Nat):Int)) else 1)=m/\1<=m/\m<=N:=by
 refine ⟨_,rfl,?_⟩;split
 ·split<;>omega
 ·omega
noncomputable def stL (loc:List (Option V)) (idx:List Nat) (σ:L2.St):L2.St:=loc++idx.map λj=>(σ[j]?).join
noncomputable def LcBodyG (J:It) (k:Nat) (idx:List Nat) (g:TG) (tt:TT) (te:TE) (σ:L2.St) (Q:VK) (H1:Hp):Prop:=∃ W:Nat->Nat->List V->Hp->Prop,(∃ m,W 0 m [] H1)/\∀ i m ys H,W i m ys H->ys.length<=sizeLine/\
 ((J.stop i H/\∀ p,H p=none->Q (.ref p) (upd H p (.lst ys)))\/(J.go i H/\∀ y H',J.yld i H y H'->∀ loc:List (Option V),loc.length=k->g y (stL loc idx σ) H' λσ2 H2=>(∃ cF:List (Option V),cF.length=k/\σ2=stL cF idx σ)/\tt σ2 H2 λb H3=>if b=true then te σ2 H3 λv H4=>∃ m',m' < m/\W (i+1) m' (ys++[v]) H4
  else ∃ m',m' < m/\W (i+1) m' ys H3))
noncomputable def tLcG (wi:TI) (k:Nat) (idx:List Nat) (g:TG) (tt:TT) (te:TE):TE:=λσ H Q=>wi σ H λJ H1=>LcBodyG J k idx g tt te σ Q H1
section
variable {X:Cx} {pins:List (Addr × Obj)} {σ:L2.St} {H:Hp} {s:Shared} {N ns xs:List Str} {scope:Scope} {cl:List (Str × Addr)} {C:Addr} {fp:List Addr} {idx:List Nat}
theorem invCL {D:Addr} {h1:Heap} {t:Nat} {o:Obj} {mC:Str->Option Value} (I:Inv X pins σ H s) (ok:(cxC X (xs++ns) scope cl C s H fp).Ok) (cap:Capt X scope cl ns idx) (hcl:∀ y c,cl.lookup y=some c->X.env.cells.lookup y=some c)
  (keep:∀ b u,s.heap.get? b=some u->h1.get? b=some u) (hC:s.heap.objs.size<=C) (hns:h1.Ns C mC) (hD:h1.get? D=some o) (hDs:s.heap.objs.size<=D) (hDC:D≠C) (hod:∀ v,o.data≠.cell v) :
  Inv (cxC X (xs++ns) scope cl C s H fp) [(D,o)] (stL (xs.map λ_=>none) idx σ) H {s with heap:=h1,toks:=t}:=by
 have cellK:∀ y c,cl.lookup y=some c->∀ v,s.heap.IsCell c v->h1.IsCell c v:=λy c e v ⟨o,ho,hd⟩=>⟨o,keep _ _ ho,hd⟩
 refine ⟨ok,rfl,I.bare,Un.kept keep,⟨mC,hns,λi y v e1 e2 e3=>?_⟩,λy c e=>?_,I.hok.fresh hC,λy c e=>I.freeC y c (hcl y c e),λp hp=>?_,I.hok.kept keep,?_⟩
 ·by_cases hlt:i < xs.length
  ·have dM:(xs.map (λ_=>(none:Option V)))[i]?=some (some v):=by
    have z:(stL (xs.map λ_=>none) idx σ)[i]?=some (some v):=e2
    unfold stL at z;rwa [List.getElem?_append_left (by simpa using hlt)] at z
   rw [List.getElem?_map] at dM;cases q:xs[i]? with
   |none=>rw [q] at dM; cases dM
   |some w=>rw [q] at dM; cases dM
  ·obtain ⟨k,rfl⟩:∃ k,i=xs.length+k:=⟨i - xs.length,by omega⟩
   have iz:ns[k]?=some y:=by
    have z:(xs++ns)[xs.length+k]?=some y:=e1;rwa [List.getElem?_append_right (by omega),Nat.add_sub_cancel_left] at z
   obtain ⟨j,c,eY,h2,h3,h4,h5,h6⟩:=cap.2 k y iz;have dM:(idx.map λj=>(σ[j]?).join)[k]?=some (some v):=by
    have z:(stL (xs.map λ_=>none) idx σ)[xs.length+k]?=some (some v):=e2
    unfold stL at z;rwa [List.getElem?_append_right (by simp),List.length_map,Nat.add_sub_cancel_left] at z
   rw [List.getElem?_map,eY] at dM;have e4:(σ[j]?).join=some v:=Option.some.inj dM;have e5:σ[j]?=some (some v):=by
    cases q:σ[j]? with
    |none=>rw [q] at e4; cases e4
    |some z=>rw [q] at e4; exact congrArg some e4
   obtain ⟨m,hn,hl⟩:=I.loc;obtain ⟨u,r,lk⟩:=hl j y v h2 e5 (.inr (.inl h3));refine ⟨u,r,.inr ⟨h6,c,h5,?_⟩⟩;rcases lk with ⟨z,_⟩|⟨_,c',z,ic⟩
   ·rw [h3] at z; cases z
   ·rw [h4] at z; cases z
    exact cellK y c h5 _ ic
 ·obtain ⟨v,ic⟩:=I.cell y c (hcl y c e);exact ⟨v,cellK y c e v ic⟩
 ·have e:p=(D,o):=by simpa [cxC] using hp
  subst e;refine ⟨hD,I.hok.fresh hDs,hDC,λhs=>?_,hod⟩
  obtain ⟨_,o',ho',_⟩:=I.stack.mem hs;exact absurd (Heap.lt_size ho') (Nat.not_lt.mpr hDs)
 ·unfold stL;rw [List.length_append,List.length_map,List.length_map,cap.1];exact (List.length_append ..).symm
end
section
variable {X:Cx} {elt iter tg:Expr} {ifs:List Expr} {xs:List Str} {pos:Pos} {scope:Scope} {cl:List (Str × Addr)} {wi:TI} {g:TG} {tt:TT} {te:TE} {ns:List Str} {idx:List Nat}
theorem lc_mainG (hc:X.calm=true) (hi:PI X tg iter wi) (hclos:closureFor scope X.env=pure cl) (hcell:∀ y∈scope.names,y.2≠.cell) (hkind:scope.kind=.function)
  (hnames:∀ y∈scope.names,y.2=.local->scope.names.lookup y.1=some .local) (hg:∀ (C:Addr) (s:Shared) (H:Hp) (fp:List Addr),PG (cxC X (xs++ns) scope cl C s H fp) tg g) (cap:Capt X scope cl ns idx)
  (hcl:∀ y c,cl.lookup y=some c->X.env.cells.lookup y=some c) (hfr:∀ y,((relabel scope X.env).names.lookup y=some .cell\/(relabel scope X.env).names.lookup y=some .free)->∃ c,cl.lookup y=some c)
  (htt:∀ (C:Addr) (s:Shared) (H:Hp) (fp:List Addr),PTs (cxC X (xs++ns) scope cl C s H fp) ifs tt) (hel:∀ (C:Addr) (s:Shared) (H:Hp) (fp:List Addr),PE (cxC X (xs++ns) scope cl C s H fp) elt te)
  {pins:List (Addr × Obj)} {σ:L2.St} {Q:VK} {itv:Value} {s2:Shared} {E:Value->Shared->Prop} {RR:Value->Addr->Result->Shared->Prop} (h2:PIE X pins σ tg (λJ H1=>LcBodyG J xs.length idx g tt te σ Q H1) itv s2)
  (hRR:∀ fp H2 H4 s5 C D ys,Inv X pins σ H2 s2->(∀ b∈fp,FpOk X pins H2 b)->LcEnd X fp H2 H4 s2 s5 C D ys->Q (.ref D) (upd H4 D (.lst ys))->RR (.ref D) C (.ok .next) s5) :
  wpAny (model X.prog X.w) X.A (newList []) (λacc s3=>wpAny (model X.prog X.w) X.A (newFunctionEnv scope X.env.globals cl [] X.env.qual none .none (some X.env)) (λcenv s4=>
   codeAny (model X.prog X.w) X.A (.compStart (.ListComp elt [⟨tg,iter,ifs,0⟩] scope pos) 0 itv acc {cenv with scope:=relabel scope X.env}) (RR acc cenv.locals) s4) E s3) E s2:=by
 obtain ⟨it,fp,tn,J,H2,e,I2,T,eX,f2,W,⟨m0,w0⟩,turn⟩:=h2;subst e;refine wpAny_newObj_type (wpAny_newFunctionEnv hcell (by intro y hy; simp at hy) (λh1 de cE=>?_) hkind)
 dsimp only at de cE ⊢;generalize gj:s2.heap.push {cls:=.type "list",dict:=none,data:=.seq ([]:List Value).toArray}=g2 at de cE ⊢;have hC:g2.objs.size=s2.heap.objs.size+1:=by rw [<- gj,Heap.size_push]
 have hDC:s2.heap.objs.size≠g2.objs.size:=by rw [hC]; exact Nat.ne_of_lt (Nat.lt_succ_self _)
 have hCle:s2.heap.objs.size<=g2.objs.size:=by rw [hC]; exact Nat.le_succ _
 have bK:∀ b o,s2.heap.get? b=some o->h1.get? b=some o:=λb o e=>cE.extBut b o (Nat.ne_of_lt (Nat.lt_of_lt_of_le (Heap.lt_size e) hCle)) (Heap.get?_push_of_some _ (gj▸Heap.get?_push_of_some _ e))
 have hacc:h1.get? s2.heap.objs.size=some {cls:=.type "list",data:=.seq ([]:List Value).toArray 0}:=cE.extBut _ _ hDC (Heap.get?_push_of_some _ (gj▸Heap.get?_push_size _ rfl));have lt:∀ b∈fp,b < s2.heap.objs.size:=λb hb=>by
  obtain ⟨o,e,_⟩:=T.obj _ _ eX b hb;exact Heap.lt_size e
 have ok:=okC (N:=xs++ns) (scope:=scope) (cl:=cl) (C:=g2.objs.size) I2 f2 lt hCle hkind hcl hfr;have I3:=invCL (D:=s2.heap.objs.size) (t:=s2.toks+([]:List (Str × Value)).length) I2 ok cap hcl bK hCle de hacc (Nat.le_refl _) hDC (λv z=>by cases z)
 have fC:∀ {H':Hp} {pl:List (Addr × Obj)},(∀ p∈pl,p.1=s2.heap.objs.size)->(∀ b∈fp,H' b=none)->∀ b∈fp,FpOk (cxC X (xs++ns) scope cl g2.objs.size s2 H2 fp) pl H' b:=λ{H' pl} hpl hn b hb=>
  ⟨hn b hb,(ok.exf b hb).1,λz=>ok.exfs b hb z,.inl hb,(ok.exf b hb).2,λp hp z=>by
   have q:=hpl p (by simpa [cxC] using hp)
   have:=lt b hb;rw [<- z,q] at this
   exact Nat.lt_irrefl _ this⟩
 have lnc:∀ us:List Value,∀ v,(LCg.lst us).data≠.cell v:=λus v z=>by cases z
 have loop:∀ s3:Shared,s3={s2 with heap:=h1,toks:=s2.toks+([]:List (Str × Value)).length}->
   codeAny (model X.prog X.w) X.A (.compLoop (.ListComp elt [⟨tg,iter,ifs,0⟩] scope pos) 0 (.ref it) (.ref s2.heap.objs.size) (compEnvC scope cl g2.objs.size X.env))
    (RR (.ref s2.heap.objs.size) g2.objs.size) s3:=by
  rintro s3 rfl;refine lc_loop (λn s'=>∃ i ys us r H',r.length=xs.length/\Inv (cxC X (xs++ns) scope cl g2.objs.size s2 H2 fp) [(s2.heap.objs.size,LCg.lst us)] (stL r idx σ) H' s'/\tn i s'.heap/\(∀ b∈fp,H' b=none)/\Vals ys us/\W i n ys H') ?_ m0
   ⟨0,[],[],xs.map λ_=>none,H2,by simp,I3,T.keep _ _ _ eX λb _ o e=>bK b o e,λb hb=>(f2 b hb).1,.nil,w0⟩
  rintro n s4 ⟨i,ys,us,r,H4,lr,I4,st4,fr4,vs4,w4⟩;obtain ⟨hz,⟨stop,qn⟩|⟨go,step⟩⟩:=turn i n ys H4 w4
  ·refine thn (T.done (cxC X (xs++ns) scope cl g2.objs.size s2 H2 fp) rfl rfl rfl hc i _ s4 _ H4 NoE I4 (fC (λp hp=>by rw [List.mem_singleton.mp hp]) fr4) st4 stop) λr5 s5 zz=>?_
   obtain ⟨eh,I5⟩:=zz;subst eh;obtain ⟨mC,hnC,_⟩:=I5.loc;obtain ⟨dN,cQ,_⟩:=I5.pin (s2.heap.objs.size,LCg.lst us) (List.mem_append_right _ (List.mem_singleton.mpr rfl));exact hRR fp H2 H4 s5 g2.objs.size s2.heap.objs.size ys I2 f2 ⟨rfl,hCle,hDC,I5.base,I5.hok,I5.free,cQ,I5.os,I5.bare,⟨mC,hnC⟩,⟨us,vs4,dN⟩,hz⟩ (qn _ cQ)
  ·refine thn (T.item (cxC X (xs++ns) scope cl g2.objs.size s2 H2 fp) rfl rfl rfl hc i _ s4 _ H4 NoE I4 (fC (λp hp=>by rw [List.mem_singleton.mp hp]) fr4) st4 go) λr5 s5 zz=>?_
   obtain ⟨u,eh,k5⟩:=zz;subst eh;refine thn k5 λ_ s6 zz=>?_
   obtain ⟨y,H6,I6,r6,y6,eB,fr6⟩:=zz;have oG:=I6.pinned (fC (λp hp=>by rw [List.mem_singleton.mp hp]) fr6) (T.obj _ _ eB)
   refine thn (hg g2.objs.size s2 H2 fp _ s6 _ H6 y u _ oG r6 (step y _ y6 r lr)) λ_ s7 ⟨σ7,H7,I7,⟨cF,l2,e7⟩,k7⟩=>?_
   subst e7;refine thn (htt g2.objs.size s2 H2 fp _ s7 _ _ _ I7 k7) λok fR zz=>?_
   obtain ⟨fS,eZ,gl⟩:=zz;cases ok with
   |false=>
    obtain ⟨m',lm,w8⟩:=(show ∃ m',m' < n/\W (i+1) m' ys fS from gl);have kf:∀ b∈fp,∀ o,s6.heap.get? b=some o->fR.heap.get? b=some o/\fS b=none:=λb hb o e=>by
     have q:=eZ.pin (b,o) (List.mem_append_right _ (List.mem_append_right _ (jD hb e)));exact ⟨q.1,q.2.1⟩
    obtain ⟨dN,cQ,fe,pD4,_⟩:=eZ.pin (s2.heap.objs.size,LCg.lst us) (by simp [cxC])
    refine ⟨m',lm,i+1,ys,us,cF,fS,l2,eZ.pins_of λp hp=>?_,?_,λb hb=>?_,vs4,w8⟩
    ·rw [List.mem_singleton.mp hp];exact ⟨dN,cQ,fe,pD4,lnc _⟩
    ·exact T.keep _ _ _ eB λb hb o e=>(kf b hb o e).1
    ·obtain ⟨o,e,_⟩:=T.obj _ _ eB b hb;exact (kf b hb o e).2
   |true=>
   refine thn (hel g2.objs.size s2 H2 fp _ fR _ _ _ eZ gl) λy8 s8 zz=>?_
   obtain ⟨v,H8,I8,r8,m',lm,w8⟩:=zz;obtain ⟨dN,cQ,fe,pD4,_⟩:=I8.pin (s2.heap.objs.size,LCg.lst us) (by simp [cxC])
   have kf:∀ b∈fp,∀ o,s6.heap.get? b=some o->s8.heap.get? b=some o/\H8 b=none:=λb hb o e=>by
    have q:=I8.pin (b,o) (List.mem_append_right _ (List.mem_append_right _ (jD hb e)));exact ⟨q.1,q.2.1⟩
   refine append_at (hsz:=by show us.toArray.size<=sizeLine; rw [List.size_toArray,<- vs4.length]; exact hz) dN λh9 iA oH=>?_
   have oI:Inv (cxC X (xs++ns) scope cl g2.objs.size s2 H2 fp) [] (stL cF idx σ) H8 s8:=I8.pins_of λp hp=>nomatch hp
   have I9:=oI.turned (it:=s2.heap.objs.size) (h':=h9) (t':=s8.toks) (λb o hb e=>(iA.2 b hb).trans e) cQ fe (.inr (Nat.le_refl _)) (λy c e z=>by
     obtain ⟨v,q⟩:=I2.cell y c (hcl y c e)
     exact absurd q.lt (by rw [z]; exact Nat.lt_irrefl _)) (λp hp=>by simp [cxC] at hp)
   refine ⟨m',lm,i+1,ys++[v],us++[y8],cF,H8,l2,I9.pins_of λp hp=>?_,?_,λb hb=>?_,vs4.append (.cons r8 .nil),w8⟩
   ·rw [List.mem_singleton.mp hp];exact ⟨oH.trans (congrArg some (LCg.lst_snoc us y8)),cQ,fe,pD4,lnc _⟩
   ·exact T.keep _ _ _ eB λb hb o e=>(iA.2 b (Nat.ne_of_lt (lt b hb))).trans (kf b hb o e).1
   ·obtain ⟨o,e,_⟩:=T.obj _ _ eB b hb;exact (kf b hb o e).2
 exact codeAny_compStart_list (loop _ rfl) (T.self _ 0 _ _ _ (T.keep _ _ _ eX λb _ o e=>bK b o e) (loop _ rfl))
theorem pe_lcG (hc:X.calm=true) (hi:PI X tg iter wi) (hclos:closureFor scope X.env=pure cl) (hcell:∀ y∈scope.names,y.2≠.cell) (hkind:scope.kind=.function)
  (hnames:∀ y∈scope.names,y.2=.local->scope.names.lookup y.1=some .local) (hg:∀ (C:Addr) (s:Shared) (H:Hp) (fp:List Addr),PG (cxC X (xs++ns) scope cl C s H fp) tg g) (cap:Capt X scope cl ns idx)
  (hcl:∀ y c,cl.lookup y=some c->X.env.cells.lookup y=some c) (hfr:∀ y,((relabel scope X.env).names.lookup y=some .cell\/(relabel scope X.env).names.lookup y=some .free)->∃ c,cl.lookup y=some c)
  (htt:∀ (C:Addr) (s:Shared) (H:Hp) (fp:List Addr),PTs (cxC X (xs++ns) scope cl C s H fp) ifs tt) (hel:∀ (C:Addr) (s:Shared) (H:Hp) (fp:List Addr),PE (cxC X (xs++ns) scope cl C s H fp) elt te) (hs:∀ v,foldedSetIterable iter X.env v=pure v:=by intro _; rfl) :
  PE X (.ListComp elt [⟨tg,iter,ifs,0⟩] scope pos) (tLcG wi xs.length idx g tt te):=by
 intro pins s σ H Q I h;rw [eval_ListComp];refine wpAny_comprehension_free (use:=none) rfl hs hclos hkind hnames (thn (hi pins s σ H _ I h) λv s1 h1=>thn h1 λitv s2 h2=>?_)
 refine lc_mainG hc hi hclos hcell hkind hnames hg cap hcl hfr htt hel (RR:=λacc C=>compPost (model X.prog X.w) X.A X.xe none (EP X pins σ Q) acc C) h2 λfp H2 H4 s5 C D ys I2 f2 L q=>?_
 obtain ⟨mC,hnC⟩:=L.ns;exact ⟨mC,hnC,λh' sb=>⟨.ref D,_,L.inv I2 f2 sb,rfl,q⟩⟩
end
section
variable {K:Frag} {te:TE} {tt:TT} {g:TG} {σ:L2.St} {H:Hp} {Q:VK} {idx:List Nat} {k:Nat}
theorem Jv {a:Addr} {xs:List V} (Pv:Nat->List V->Hp->Prop) (h0:Pv 0 [] H) (hz:xs.length<=sizeLine) (hy:∀ i ys H,Pv i ys H->ys.length=i) (hl:∀ i ys H,Pv i ys H->SqL K H a xs)
  (hs:∀ i x ys H (Q':VK) (loc:List (Option V)),loc.length=k->xs[i]?=some x->Pv i ys H->(∀ v H2,Pv (i+1) (ys++[v]) H2->Q' v H2)->g x (stL loc idx σ) H λσ2 H2=>(∃ cF:List (Option V),cF.length=k/\σ2=stL cF idx σ)/\te σ2 H2 Q') (hd:∀ ys H,Pv xs.length ys H->∀ p,H p=none->Q (.ref p) (upd H p (.lst ys))) :
  LcBodyG (Itl K a) k idx g ttNil te σ Q H:=by
 refine ⟨λi m ys H=>m=xs.length - i/\i<=xs.length/\Pv i ys H,⟨xs.length,by simp,Nat.zero_le _,h0⟩,?_⟩
 rintro i m ys H ⟨rfl,hi,p⟩;have q:=hl i ys H p;refine ⟨by rw [hy i ys H p]; omega,?_⟩
 by_cases hlt:i < xs.length
 ·refine .inr ⟨⟨xs,xs[i],q,by simp [hlt]⟩,λy H' yl loc ll=>?_⟩
  obtain ⟨e,yl⟩:=yl;subst e;have z:=hs i y ys _ (λv H4=>∃ m',m' < xs.length - i/\m'=xs.length - (i+1)/\i+1<=xs.length/\Pv (i+1) (ys++[v]) H4) loc ll (yl xs q) p λv H2 z=>⟨xs.length - (i+1),by omega,rfl,hlt,z⟩
  exact z
 ·have e:i=xs.length:=by omega
  subst e;exact .inl ⟨⟨xs,q,Nat.le_refl _⟩,hd ys H p⟩
end
section
variable {X:Cx} {pos:Pos}
theorem pg_tupK {K:Frag} (hK:X.K=K) {es:List Expr} {k:Nat} {t:TGs} {n:Nat} (hc:X.calm=true) (h:PGs X es t) (hn:(assignEach es X.env).length=n:=by rfl) (hst:(assignEach es X.env).findIdx? (·.1)=none:=by rfl):PG X (.Tuple es k pos) (gTup K n t):=by
 subst hK;exact pg_tup hc h hn hst
end
theorem YI (q:Rat) (qs:List Rat):sumQ (q::qs)=q+sumQ qs:=by
 have h:∀ (l:List Rat) (a:Rat),l.foldl (λa b=>a+b) a=a+sumQ l:=by
  intro l;induction l with
  |nil=>intro a; show a=a+0; grind
  |cons b l ih=>
   intro a;show l.foldl _ (a+b)=a+l.foldl (λa b=>a+b) (0+b)
   rw [ih,ih];grind
 show qs.foldl (λa b=>a+b) (0+q)=_
 rw [h];grind
theorem Al2.set {β:Type} {R:V->β->Prop}:∀ {xs:List V} {bs:List β} {j:Nat} {x:V} {b:β},Al2 R xs bs->R x b->Al2 R (xs.set j x) (bs.set j b)
 |[],[],_,_,_,_,_=>trivial
 |_::_,_::_,0,_,_,z,h=>⟨h,z.2⟩
 |_::_,_::_,j+1,_,_,z,h=>⟨z.1,Al2.set z.2 h⟩
 |[],_::_,_,_,_,z,_=>z.elim
 |_::_,[],_,_,_,z,_=>z.elim
section
variable {prog:Program} {w:World} {A:Around} {E:Value->Shared->Prop} {h:Heap} {g:Array GenState} {d:Drawn} {t:Nat} {os:OsState} {C f:Addr} {K:Frag}
end
section
variable {prog:Program} {w:World} {A:Around} {E:Value->Shared->Prop} {h:Heap} {g:Array GenState} {d:Drawn} {t:Nat} {os:OsState} {C e:Addr} {K:Frag} {oe:Obj} {vs:Array Value}
end
end Kw
namespace Kw
open PySem PySem.Spec PyProof.Rows L2 PySem.Builtin PySem.Builtin.ObjectAttr
section
variable {prog:Program} {w:World} {A:Around} {R:Result->Shared->Prop} {s:Shared} {K:Frag} {x C:Addr} {ox:Obj} {od:Option Obj} {name:Str} {tk:Tok} {v:Value}
end
end Kw
namespace Kw
open PySem PySem.Spec PyProof.Rows L2 PySem.Builtin PySem.Builtin.ObjectAttr
section
variable {prog:Program} {w:World} {A:Around} {R:Result->Shared->Prop} {s:Shared} {K:Frag} {x C:Addr} {ox:Obj} {od:Option Obj} {name:Str} {tk:Tok} {v:Value}
end
end Kw
namespace Kw
open PySem PySem.Spec PyProof.Rows L2 PySem.Builtin PySem.Builtin.ObjectAttr
section
variable {prog:Program} {w:World} {A:Around} {E:Value->Shared->Prop} {s:Shared} {K:Frag} {x C:Addr} {ox:Obj} {odx:Obj} {name:Str} {v:Value}
end
end Kw
namespace Kw
open PySem PySem.Spec PyProof.Rows L2
section
variable {P:Program} {w:World} {H:Hp} {h:Heap} {x C d:Addr} {od:Option Addr} {fs:List (Str × V)}
end
section
variable {P:Program} {w:World} {K:Frag} {mg:Str->Option Value} {base:Heap} {C:Addr} {qual:Str} {st:Stmt} {N ps:List Str} {k:Nat} {sp:Sp}
end
section
variable {X:Cx} {pins:List (Addr × Obj)} {σ:L2.St} {H:Hp} {s:Shared} {k k':Nat} {f C CK:Addr} {fd:FuncData} {ps:List Str} {sp:Sp} {E:XK} {x:Str} {p pos apos:Pos} {e:Expr} {es:List Expr} {t:TA}
variable {o value:Expr} {f:Str} {pos':Pos} {ta tv:TE}
end
noncomputable def clsAt (l:List Addr) (n:Nat):Addr:=l.getD n 0
section
variable {X:Cx} {E:XK} {e:Expr} {te:TE} {pos:Pos}
variable {o:Expr} {f:Str} {ta:TE}
end
section
variable {X:Cx} {pins pins':List (Addr × Obj)} {σ:L2.St} {H:Hp} {s:Shared} {E0:Value->Shared->Prop}
end
section
variable {X:Cx} {pins:List (Addr × Obj)} {H:Hp} {s:Shared} {hc:Heap} {x CA:Addr} {od:Option Addr}
end
section
variable {X:Cx} {pins:List (Addr × Obj)} {σ:L2.St} {H:Hp} {s:Shared}
end
section
variable {X:Cx} {j:Nat} {n xK:Str} {CK:Addr} {ts:TS} {b₀:Stmt} {suite:List Stmt} {kp hpos pos:Pos} {rest:List ExceptHandler} {tr:Ends->Addr->Option Addr->Hp->Prop}
variable {body:List Stmt} {tb:XK->TS} {th:Ends->Addr->Option Addr->Hp->Prop} {h₀:ExceptHandler} {hs:List ExceptHandler}
end
section
variable {X:Cx}
noncomputable def rEqNil (K:Frag):V->V->Hp->VK->Prop:=λx y H Q=>∃ a b xs,x=.ref a/\y=.ref b/\SqL K H a xs/\SqL K H b []/\Q (.bl xs.isEmpty) H
theorem op_eqNil {K:Frag} (hK:X.K=K) (hu:X.A.units+100 < cLine):OpR X (compareOp .Eq) (rEqNil K):=by
 subst hK;intro pins s σ H x y v u Q I rx ry h;obtain ⟨a,b,xs,rfl,rfl,ha,hb,q⟩:=h;cases xs with
 |nil=>exact op_eqD rfl hu pins s σ H _ _ v u Q I rx ry ⟨.list [],.list [],.lst ha .nil,.lst hb .nil,rfl,rfl,by decide,q⟩
 |cons z zs=>
  cases (show v=Value.ref a from rx)
  cases (show u=Value.ref b from ry)
  obtain ⟨its,r,pl,hz⟩:=I.list ha;obtain ⟨aM,r2,pl2,hz2⟩:=I.list hb;have l1:=r.length;have l2:=r2.length;have w':=SeqAt.RcAt.lists_lengths pl.isList pl2.isList (by simp at l1 l2 ⊢; omega) (show X.A.units < cLine by omega)
  exact w' X.prog X.w X.xe _ ⟨.bl false,H,I,rfl,q⟩
end
section
variable {K:Frag} {idx:List Nat} {tt:TT} {te:TE} {σ:L2.St} {H:Hp} {Q:VK}
theorem lc_filter {a:Addr} {xs:List V} (p:V->Bool) (hl:SqL K H a xs) (hz:xs.length<=sizeLine) (ht:∀ x∈xs,∀ Q':Bool->Hp->Prop,Q' (p x) H->tt (stIn (some x) idx σ) H Q') (he:∀ x∈xs,∀ Q':VK,Q' x H->te (stIn (some x) idx σ) H Q')
  (hd:∀ q,H q=none->Q (.ref q) (upd H q (.lst (xs.filter p)))):jw (Itl K a) idx tt te σ Q H:=by
 refine ⟨λi m ys H'=>m=xs.length - i/\i<=xs.length/\H'=H/\ys=(xs.take i).filter p,⟨xs.length,by simp,Nat.zero_le _,rfl,by simp⟩,?_⟩
 rintro i m ys H' ⟨rfl,hi,rfl,rfl⟩;refine ⟨Nat.le_trans (List.length_filter_le _ _) (by rw [List.length_take]; omega),?_⟩
 by_cases hlt:i < xs.length
 ·refine .inr ⟨⟨xs,xs[i],hl,by simp [hlt]⟩,λy H' yl=>?_⟩
  obtain ⟨e,yl⟩:=yl;subst e;have hy:=yl xs hl;have hm:y∈xs:=List.mem_of_getElem? hy;have tk:=take_succ_filter p xs i y hy;refine ht y hm _ ?_;cases hp:p y with
  |true=>
   rw [hp] at tk;rw [if_pos rfl];exact he y hm _ ⟨xs.length - (i+1),by omega,rfl,hlt,rfl,by rw [tk]; rfl⟩
  |false=>
   rw [hp] at tk;rw [if_neg (by decide)]
   exact ⟨xs.length - (i+1),by omega,rfl,hlt,rfl,by rw [tk]; simp⟩
 ·have e:i=xs.length:=by omega
  subst e;refine .inl ⟨⟨xs,hl,Nat.le_refl _⟩,?_⟩;rw [List.take_length];exact hd
end
theorem atI_z {xs:List V} {j:Nat} {x:V} (h:xs[j]?=some x):atI xs (0+(j:Int))=some x:=by
 rw [Int.zero_add];exact yA h
section
variable {K:Frag} {te:TE} {tt:TT} {σ:L2.St} {H:Hp} {Q:VK} {idx:List Nat} {n:Nat}
end
section
variable {K:Frag} {H:Hp} {m n:Nat} {x:V} {b:Bod}
end
section
variable {B C:Int} {x y:Rat}
end
end Kw
namespace Kw
end Kw
namespace Kw
end Kw
namespace Kw
open PySem PySem.Spec PyProof.Rows L2
section
variable {X:Cx}
noncomputable def rBits:V->List V->Hp->VK->Prop:=λx vs H Q=>∃ i:Int,x=.int i/\vs=[]/\Q (.int ((Builtin.Int.intBits i:Nat):Int)) H
theorem mt_bits:MtR X "int.bit_length" rBits:=by
 intro pins s σ H x vs v us Q I rx rv h;obtain ⟨i,rfl,rfl,q⟩:=h;obtain ⟨t,rfl⟩:=rx;cases rv
 exact call_gives PySem.F.slot_int_bit_length (typeIs_int s i t) PySem.F.entry_int_bit_length (PySem.F.args_int_bit_length_1 _) (PySem.AutoIntG2.int_bit_length_int_0 i t) ⟨.int ((Builtin.Int.intBits i:Nat):Int),H,I.tok _,⟨_,rfl⟩,q⟩
end
noncomputable def Ju:Sp:=λvs H Q _=>∃ a b:Int,vs=[.int a,.int b]/\Bd 4000 b/\Q (.int ((Int.gcd a b:Nat):Int)) H
theorem short_min {a b:Int} (h:Bd 4000 b):¬ (((Builtin.Int.intBits (if (if b < 0 then -b else b) < (if a < 0 then -a else a) then (if b < 0 then -b else b) else (if a < 0 then -a else a)):Nat):Int) > 4000):=by
 have l:Bd 4000 (if (if b < 0 then -b else b) < (if a < 0 then -a else a) then (if b < 0 then -b else b) else (if a < 0 then -a else a)):=by
  refine h.of_le ?_;split<;>split<;>(try split)<;>omega
 have:=l.bits;omega
theorem q_invp {y:Rat} (h:0 < y.num):(y⁻¹).num=((y.den:Nat):Int)/\(((y⁻¹).den:Nat):Int)=y.num:=by
 have e:y⁻¹=Rat.inv y:=rfl;rw [e];unfold Rat.inv;rw [dif_neg (by omega),dif_pos h]
 exact ⟨rfl,by show ((y.num.natAbs:Nat):Int)=y.num; omega⟩
theorem q_invn {y:Rat} (h:y.num < 0):(y⁻¹).num=-((y.den:Nat):Int)/\(((y⁻¹).den:Nat):Int)=-y.num:=by
 have e:y⁻¹=Rat.inv y:=rfl;rw [e];unfold Rat.inv;rw [dif_pos h];exact ⟨rfl,by show ((y.num.natAbs:Nat):Int)=-y.num; omega⟩
theorem FB.inv {n:Nat} {y:Rat} (h:FB n y) (y0:y≠0):FB n y⁻¹:=(FB.fit (q_num_ne y0) h.2 h.1).cast (q_inv y)
noncomputable def mixS (u v:Rat) (m w:Int) (s:Rat):Rat:=u * Rat.divInt (m * ((s.den:Nat):Int) - w * s.num) ((m+w) * ((s.den:Nat):Int))+v * Rat.divInt (w * (((s.den:Nat):Int)+s.num)) ((m+w) * ((s.den:Nat):Int))
theorem mixS_one (u v:Rat) (m w:Int):mixS u v m w ((1:Int):Rat)=mixQ u v m w:=by
 have e1:(((1:Int):Rat)).num=1:=rfl;have e2:(((((1:Int):Rat)).den:Nat):Int)=1:=rfl;unfold mixS mixQ;rw [e1,e2];simp only [Int.mul_one];rw [show w * (1+1)=2 * w by omega]
theorem Jt {m w:Int} {s:Rat} (hm:1<=m) (hw:1<=w):(m+w) * ((s.den:Nat):Int)≠0:=Int.mul_ne_zero (by omega) (q_ne s)
end Kw
namespace Kw
end Kw
namespace Kw
open PySem PySem.Spec PyProof.Rows L2
section
variable {S:V->Prop} {lt:V->V->Bool} {x y:V} {row:List V}
end
section
variable {K:Frag} {H H':Hp} {c:Addr} {x:V} {k k':Int × Int} {xs ys:List V} {key:V->Int × Int}
end
section
variable {K:Frag} {H H':Hp} {b c:Addr} {x:V} {xs ys:List V}
end
theorem g_go {i:Nat} {x:V} {σ:L2.St} {H:Hp} {Q:L2.St->Hp->Prop} (h:Q (σ.set i (some x)) H):gName i x σ H Q:=h
section
variable {idx:List Nat} {tt:TT} {te:TE} {σ:L2.St} {H:Hp} {Q:VK}
end
theorem vals_ints:∀ {ns:List Int} {us:List Value},Vals (ns.map V.int) us->IntsAre us ns
 |[],[],_=>.nil
 |n::ns,u::us,h=>by
  cases h with
  |cons r t=>
   obtain ⟨k,rfl⟩:=r;exact .cons n k (vals_ints t)
theorem zAI:∀ (us:List Value) (k:Nat),(∀ (j:Nat) (v:Value),us[j]?=some v->∃ t,v=Value.int ((0:Int)+((k+j:Nat):Int) * 1) t)->Vals ((List.range' k us.length).map λi:Nat=>V.int (i:Int)) us
 |[],_,_=>.nil
 |u::us,k,h=>by
  obtain ⟨t,e⟩:=h 0 u rfl;have ih:=zAI us (k+1) λj v hj=>by
   obtain ⟨t',e'⟩:=h (j+1) v hj;exact ⟨t',by rw [e']; congr 2; omega⟩
  refine .cons ⟨t,?_⟩ ih;rw [e];congr 1;omega
section
variable {X:Cx}
noncomputable def tLR (ta:TA):TE:=λσ H Q=>ta σ H λvs H1=>∃ n:Nat,vs=[.int (n:Int)]/\n<=1000/\∀ l,H1 l=none->Q (.ref l) (upd H1 l (.lst ((List.range n).map λi:Nat=>V.int (i:Int))))
theorem pe_listRange {a:Expr} {ta:TA} {p p2 pos eC:Pos} (hc:X.calm=true) (hgl:Gl X "list") (hml:X.mg "list"=none) (hgr:Gl X "range") (hmr:X.mg "range"=none) (ha:PA X [a] ta)
  (hs:starEach [a] X.env=[(false,eval a X.env)]:=by rfl) (fP:starEach [.Call (.Name "range" p2) [a] [] eC] X.env=[(false,eval (.Call (.Name "range" p2) [a] [] eC) X.env)]:=by rfl) :
  PE X (.Call (.Name "list" p) [.Call (.Name "range" p2) [a] [] eC] [] pos) (tLR ta):=by
 intro pins s σ H Q I h;refine wpAny_Call_Name_kw (Ya I hgl hml PyProof.Rows.Boot.«list» ?_);refine PyProof.Rows.callWith_type1 ?_ fP rfl;rw [fP];show wpAny _ _ (spliced ((false,eval (.Call (.Name "range" p2) [a] [] eC) X.env)::[])) _ _ s;refine Calls.spliced_cons ?_;refine wpAny_Call_Name_kw (Ya I hgr hmr boot_range ?_);refine PyProof.Rows.callWith_type1 (thn (ha eC pins s σ H _ I h) λus s1 ⟨vs,H1,I1,r1,n,e,hn,q⟩=>?_) hs rfl
 subst e;cases r1 with
 |cons r rr=>
  cases rr
  obtain ⟨t,rfl⟩:=r;refine call_range_1 ?_;refine Calls.spliced_nil ?_;have I2:Inv X pins σ H1 {s1 with heap:=s1.heap.push {cls:=.type "range",data:=.fields #[.int 0 s1.toks,.int (n:Int) t,.int 1 (s1.toks+1)]},toks:=s1.toks+1+1}:=I1.kept λb o e=>Heap.get?_push_of_some _ e
  refine call_list_range (n:=n) (I.ok.hd hc) (IsRange.new ..) (small_one (by decide) (by decide) (by omega) (by omega)) ?_ (Nat.le_trans hn (by decide)) λh' tk acc' c' kp e items=>?_
  ·rw [rangeSize_one];split<;>omega
  obtain ⟨i1,i2⟩:=items;have v:Vals ((List.range n).map λi:Nat=>V.int (i:Int)) acc'.toList:=by
   have z:=zAI acc'.toList 0 λj v hj=>by
    rw [Array.getElem?_toList] at hj;obtain ⟨t',e'⟩:=i2 j v hj;exact ⟨t',by rw [e',Nat.zero_add]⟩
   rw [Array.length_toList,i1] at z;rw [List.range_eq_range'];exact z
  refine ⟨.ref _,_,I2.laid (t':=tk) kp (Nat.le_refl _) ?_,rfl,q _ (I2.hok.fresh (Nat.le_refl _))⟩;refine ⟨?_,acc'.toList,c',v,?_⟩
  ·rw [List.length_map,List.length_range];exact Nat.le_trans hn (by decide)
  ·rw [e,Array.toArray_toList]
end
section
variable {X:Cx} {pos:Pos}
end
end Kw
namespace L2
open PySem PySem.Spec PyProof.Rows
section
variable {κ:Type} [DecidableEq κ]
noncomputable def valV (kvs:List (κ × V)) (k:κ):Option V:=(kvs.find? λkv=>decide (kv.1=k)).map (·.2)
noncomputable def putK (kvs:List (κ × V)) (k:κ) (v:V):List (κ × V):=
 if (kvs.any λkv=>decide (kv.1=k))=true then kvs.map (λkv=>if kv.1=k then (kv.1,v) else kv) else kvs++[(k,v)]
theorem Yi {p:κ × V} {r:List (κ × V)} {k:κ} (e:p.1=k):valV (p::r) k=some p.2:=by simp [valV,List.find?_cons,e]
theorem Ye {p:κ × V} {r:List (κ × V)} {k:κ} (e:¬ p.1=k):valV (p::r) k=valV r k:=by simp [valV,List.find?_cons,e]
theorem valV_any (k:κ):∀ kvs:List (κ × V),(kvs.any λkv=>decide (kv.1=k))=(valV kvs k).isSome
 |[]=>rfl
 |p::r=>by
  rw [List.any_cons];by_cases e:p.1=k
  ·simp only [Yi e,decide_eq_true e,Bool.true_or,Option.isSome_some]
  ·rw [Ye e,decide_eq_false e,Bool.false_or]; exact valV_any k r
theorem j0 (kvs:List (κ × V)) (k:κ) (v:V):(putK kvs k v).length<=kvs.length+1:=by
 unfold putK;split
 ·rw [List.length_map]; omega
 ·rw [List.length_append,List.length_cons,List.length_nil]; omega
theorem RelO.isSome_eq {o:Option V} {u:Option Value} (r:RelO o u):o.isSome=u.isSome:=by
 cases o with
 |none=>cases u with
  |none=>rfl
  |some _=>exact (show False from r).elim
 |some _=>cases u with
  |none=>exact (show False from r).elim
  |some _=>rfl
theorem KV.val {kvs:List (κ × V)} {vs:List (κ × Value)} (r:KV kvs vs) (k:κ):RelO (valV kvs k) (valueAt vs k):=by
 unfold KV at r;induction r with
 |nil=>exact True.intro
 |@cons p q ps qs h t ih=>
  obtain ⟨h1,h2⟩:=h;by_cases e:p.1=k
  ·have e':q.1=k:=h1.symm.trans e;have b:valueAt (q::qs) k=some q.2:=by simp [valueAt,List.find?_cons,e']
   rw [Yi e,b]; exact h2
  ·have e':¬ q.1=k:=λz=>e (h1.trans z)
   have b:valueAt (q::qs) k=valueAt qs k:=by simp [valueAt,List.find?_cons,e']
   rw [Ye e,b]; exact ih
theorem KV.any {kvs:List (κ × V)} {vs:List (κ × Value)} (r:KV kvs vs) (k:κ):(kvs.any λkv=>decide (kv.1=k))=vs.any λkv=>decide (kv.1=k):=by
 unfold KV at r;induction r with
 |nil=>rfl
 |cons h t ih=>rw [List.any_cons,List.any_cons,ih,h.1]
theorem KV.repl {kvs:List (κ × V)} {vs:List (κ × Value)} (r:KV kvs vs) (k:κ) {y:V} {u:Value} (ry:RelV y u) :
  KV (kvs.map λkv=>if kv.1=k then (kv.1,y) else kv) (vs.map λkv=>if kv.1=k then (kv.1,u) else kv):=by
 unfold KV at r ⊢;induction r with
 |nil=>exact .nil
 |@cons p q ps qs h t ih=>
  rw [List.map_cons,List.map_cons];refine .cons ?_ ih;obtain ⟨h1,h2⟩:=h;by_cases e:p.1=k
  ·rw [if_pos e,if_pos (h1.symm.trans e)]; exact ⟨h1,ry⟩
  ·rw [if_neg e,if_neg (λz=>e (h1.trans z))]; exact ⟨h1,h2⟩
theorem KV.put {kvs:List (κ × V)} {vs:List (κ × Value)} (r:KV kvs vs) (k:κ) {y:V} {u:Value} (ry:RelV y u):KV (putK kvs k y) (stored vs k u):=by
 unfold putK stored;rw [r.any k];by_cases e:(vs.any λkv=>decide (kv.1=k))=true
 ·rw [if_pos e,if_pos e]; exact r.repl k ry
 ·rw [if_neg e,if_neg e]; exact Paired.snoc r ⟨rfl,ry⟩
theorem KV.length {kvs:List (κ × V)} {vs:List (κ × Value)} (r:KV kvs vs):kvs.length=vs.length:=Paired.length r
end
theorem kV_is {P:Program} {w:World} {k:Key} {u:Value} (r:RelV (kV k) u):(yF P w).is k u=true:=by
 cases k with
 |inl i=>obtain ⟨t,e⟩:=(show ∃ t,u=Value.int i t from r); subst e; exact mixKind_int P w i t
 |inr x=>obtain ⟨t,e⟩:=(show ∃ t,u=Value.str x t from r); subst e; exact mixKind_str P w x t
theorem items_are {P:Program} {w:World}:∀ {ks:List Key} {us:List Value},Vals (ks.map kV) us->ItemsAre (yF P w) ks us
 |[],_,r=>by rw [List.map_nil] at r; cases r; exact .nil
 |k::ks,_,r=>by
  rw [List.map_cons] at r;cases r with
  |cons h t=>exact .cons (kV_is h) (items_are t)
noncomputable abbrev KT (H:Hp):List (List Key × V)->List (List Key × Addr × Value)->Prop:=Paired λp q=>p.1=q.1/\H q.2.1=some (.tup (p.1.map kV))/\RelV p.2 q.2.2
theorem KT.val {H:Hp} {kvs:List (List Key × V)} {xs:List (List Key × Addr × Value)} (r:KT H kvs xs) (k:List Key):RelO (valV kvs k) ((atKey xs k).map (·.2)):=by
 induction r with
 |nil=>exact True.intro
 |@cons p q ps qs h t ih=>
  obtain ⟨h1,_,h2⟩:=h;by_cases e:p.1=k
  ·have e':q.1=k:=h1.symm.trans e;have b:atKey (q::qs) k=some q.2:=by simp [atKey,List.find?_cons,e']
   rw [Yi e,b]; exact h2
  ·have e':¬ q.1=k:=λz=>e (h1.trans z)
   have b:atKey (q::qs) k=atKey qs k:=by simp [atKey,List.find?_cons,e']
   rw [Ye e,b]; exact ih
theorem KT.repl {H:Hp} {kvs:List (List Key × V)} {xs:List (List Key × Addr × Value)} (r:KT H kvs xs) (k:List Key) {y:V} {u:Value} (ry:RelV y u) :
  KT H (kvs.map λkv=>if kv.1=k then (kv.1,y) else kv) (xs.map (putAt k u)):=by
 induction r with
 |nil=>exact .nil
 |@cons p q ps qs h t ih=>
  rw [List.map_cons,List.map_cons];refine .cons ?_ ih;obtain ⟨h1,h2,h3⟩:=h;unfold putAt;by_cases e:p.1=k
  ·rw [if_pos e,if_pos (h1.symm.trans e)]; exact ⟨h1,h2,ry⟩
  ·rw [if_neg e,if_neg (λz=>e (h1.trans z))]; exact ⟨h1,h2,h3⟩
theorem KT.put {H:Hp} {kvs:List (List Key × V)} {xs:List (List Key × Addr × Value)} (r:KT H kvs xs) (k:List Key) {b:Addr} {y:V} {u:Value} (hb:H b=some (.tup (k.map kV))) (ry:RelV y u) :
  KT H (putK kvs k y) (storedH xs k b u):=by
 have e:(kvs.any λkv=>decide (kv.1=k))=(atKey xs k).isSome:=by
  rw [valV_any,(r.val k).isSome_eq,Option.isSome_map]
 unfold putK storedH;rw [e];by_cases q:(atKey xs k).isSome=true
 ·rw [if_pos q,if_pos q]; exact r.repl k ry
 ·rw [if_neg q,if_neg q]; exact Paired.snoc r ⟨rfl,hb,ry⟩
theorem KT.keeps {H H':Hp} {kvs:List (List Key × V)} {xs:List (List Key × Addr × Value)} (r:KT H kvs xs) (ht:∀ b ys,H b=some (.tup ys)->H' b=some (.tup ys)):KT H' kvs xs:=
 Paired.mapP r λ_ _ z=>⟨z.1,ht _ _ z.2.1,z.2.2⟩
section
variable {P:Program} {w:World} {H:Hp} {h:Heap} {a:Addr}
theorem rd_of {u:HO} (ok:HOk P w H h) (e:Rd H a u):zu P w H h a u:=e.ok ok
theorem dk_rd {kvs:List (Key × V)} (ok:HOk P w H h) (e:Rd H a (.dK kvs)):kvs.length<=sizeLine/\(a == sysModules)=false/\∃ vs,KV kvs vs/\h.DictOf (yF P w) a vs:=
 show zu P w H h a (.dK kvs) from rd_of ok e
theorem dk_of {kvs:List (Key × V)} (ok:HOk P w H h) (e:H a=some (.dK kvs)):kvs.length<=sizeLine/\(a == sysModules)=false/\∃ vs,KV kvs vs/\h.DictOf (yF P w) a vs:=dk_rd ok (.inl e)
theorem key_of {ks:List Key} (ok:HOk P w H h) (e:H a=some (.tup (ks.map kV))):(tupleKind (yF P w)).is h ks a:=by
 obtain ⟨_,its,r,o,h1,h2,n,h3⟩:=(show zu P w H h a (.tup (ks.map kV)) from ok a _ e);exact ⟨o,its.toArray,n,h1,h2,h3,by simpa using items_are r⟩
theorem dt_rd {kvs:List (List Key × V)} (ok:HOk P w H h) (e:Rd H a (.dT kvs)):kvs.length<=sizeLine/\(a == sysModules)=false/\
  ∃ xs,KT H kvs xs/\h.DictOfH (tupleKind (yF P w)) a xs:=by
 obtain ⟨z,y,xs,r,o,es,ep,h1,h2,h3,h4,h5⟩:=(show zu P w H h a (.dT kvs) from rd_of ok e);refine ⟨z,y,xs,r,o,es,ep,h1,h2,h3,h4,λx hx=>?_,h5⟩
 have all:∀ {l:List (List Key × V)} {m:List (List Key × Addr × Value)},KT H l m->∀ x∈m,(tupleKind (yF P w)).is h x.1 x.2.1:=by
  intro l m q;induction q with
  |nil=>intro x hx; exact nomatch hx
  |@cons p q ps qs hq t ih=>
   intro x hx;rcases List.mem_cons.mp hx with e|hx
   ·subst e;exact key_of ok (by rw [<- hq.1]; exact hq.2.1)
   ·exact ih x hx
 exact all r x hx
theorem dt_of {kvs:List (List Key × V)} (ok:HOk P w H h) (e:H a=some (.dT kvs)):kvs.length<=sizeLine/\(a == sysModules)=false/\
  ∃ xs,KT H kvs xs/\h.DictOfH (tupleKind (yF P w)) a xs:=dt_rd ok (.inl e)
end
noncomputable def DGet (H:Hp) (a:Addr) (y:V) (r:Option V):Prop:=
 (∃ kvs k,Rd H a (.dK kvs)/\y=kV k/\r=valV kvs k)\/∃ kvs k b,Rd H a (.dT kvs)/\y=.ref b/\H b=some (.tup (k.map kV))/\r=valV kvs k
noncomputable def DPut (H:Hp) (a:Addr) (y v:V) (H':Hp):Prop:=
 (∃ kvs k,H a=some (.dK kvs)/\y=kV k/\kvs.length < sizeLine/\H'=upd H a (.dK (putK kvs k v)))\/
 ∃ kvs k b,H a=some (.dT kvs)/\y=.ref b/\H b=some (.tup (k.map kV))/\kvs.length < sizeLine/\H'=upd H a (.dT (putK kvs k v))
theorem DGet.t {H:Hp} {a b:Addr} {kvs:List (List Key × V)} {k:List Key} (e:H a=some (.dT kvs)) (eb:H b=some (.tup (k.map kV))):DGet H a (.ref b) (valV kvs k):=.inr ⟨kvs,k,b,.inl e,rfl,eb,rfl⟩
theorem DPut.t {H:Hp} {a b:Addr} {kvs:List (List Key × V)} {k:List Key} {v:V} (e:H a=some (.dT kvs)) (eb:H b=some (.tup (k.map kV))) (hl:kvs.length < sizeLine) :
  DPut H a (.ref b) v (upd H a (.dT (putK kvs k v))):=.inr ⟨kvs,k,b,e,rfl,eb,hl,rfl⟩
section
variable {X:Cx} {pins:List (Addr × Obj)} {σ:St} {H:Hp} {s:Shared} {a:Addr} {y v:V} {u r:Value} {o:Option V} {A:Around} {E:Value->Shared->Prop}
theorem Inv.big (I:Inv X pins σ H s):sysModules < s.heap.objs.size:=by
 have h:mainGlobals < s.heap.objs.size:=(I.mod.glob.keeps I.bk).lt;exact Nat.lt_trans (by decide) h
theorem d_getItem {Q:Value->Shared->Prop} (hu:A.units+1 < cLine) (I:Inv X pins σ H s) (g:DGet H a y (some v)) (ry:RelV y u) (h:∀ w' s',Inv X pins σ H s'->RelV v w'->Q w' s') :
  wpAny (model X.prog X.w) A (getItem (.ref a) u) Q E s:=by
 rcases g with ⟨kvs,k,e,ey,l⟩|⟨kvs,k,b,e,ey,eb,l⟩
 ·subst ey;obtain ⟨z,hd,vs,rel,dd⟩:=dk_rd I.hok e;obtain ⟨w',hw,rw'⟩:=RelO.some_of (v:=v) (o:=valueAt vs k) (by rw [l]; exact rel.val k)
  exact wpAny_getItem_of (kV_is ry) dd.mapOf hw (h w' _ (I.tok _) rw')
 ·subst ey;cases (show u=Value.ref b from ry)
  obtain ⟨z,hd,xs,rel,dd⟩:=dt_rd I.hok e;obtain ⟨w',hw,rw'⟩:=RelO.some_of (v:=v) (o:=(atKey xs k).map (·.2)) (by rw [l]; exact rel.val k)
  obtain ⟨p,hp,cG⟩:=Option.map_eq_some_iff.mp hw;refine wpAny_getItem_heap (tupleKind_room_in1 hu) (key_of I.hok eb) dd hp ?_;rw [cG];exact h w' _ (I.tok _) rw'
theorem Jg {h':Heap} {t':Nat} {ob:HO} (I:Inv X pins σ H s) (mu:Mut (H a)) (hs:Heap.SameBut a s.heap h') (he:∃ q,h'.get? a=some q) (new:zu X.prog X.w (upd H a ob) h' a ob) :
  Inv X pins σ (upd H a ob) {s with heap:=h',toks:=t'}:=
 I.write (x:=a) (e:=a) mu (.inl rfl) (λb q hb z=>(hs.2 b hb).trans z) he new
theorem dk_new {P:Program} {w:World} {H':Hp} {h':Heap} {kvs:List (Key × V)} {vs:List (Key × Value)} (z:kvs.length<=sizeLine) (hd:(a == sysModules)=false) (rel:KV kvs vs) (dd:h'.DictOf (yF P w) a vs) :
  zu P w H' h' a (.dK kvs):=⟨z,hd,vs,rel,dd⟩
theorem d_setItem {H':Hp} {Q:Unit->Shared->Prop} (hu:A.units+1 < cLine) (I:Inv X pins σ H s) (g:DPut H a y v H') (ry:RelV y u) (rv:RelV v r) (h:∀ s',Inv X pins σ H' s'->Q () s') :
  wpAny (model X.prog X.w) A (setItem (.ref a) u r) Q E s:=by
 rcases g with ⟨kvs,k,e,ey,l,eH⟩|⟨kvs,k,b,e,ey,eb,l,eH⟩
 ·subst ey eH;obtain ⟨z,hd,vs,rel,dd⟩:=dk_of I.hok e;have hz:vs.length<=sizeLine:=by rw [<- rel.length]; exact z
  have hl:(putK kvs k v).length<=sizeLine:=by have:=j0 kvs k v; omega
  refine wpAny_setItem_pairs (hsz:=hz) (kV_is ry) dd λh' dd' hs=>h _ ?_
  have he:∃ q,h'.get? a=some q:=let ⟨q,_,_,hq,_⟩:=dd'; ⟨q,hq⟩;exact Jg I (by rw [e]; exact True.intro) hs he (dk_new hl hd (rel.put k rv) dd')
 ·subst ey eH;cases (show u=Value.ref b from ry)
  obtain ⟨z,hd,xs,rel,dd⟩:=dt_of I.hok e;have hz:xs.length<=sizeLine:=by rw [<- Paired.length rel]; exact z
  have hl:(putK kvs k v).length<=sizeLine:=by have:=j0 kvs k v; omega
  refine wpAny_setItem_heap (hsz:=hz) (tupleKind_room_in1 hu) (key_of I.hok eb) dd λh' dd' hs=>h _ ?_
  obtain ⟨q,es,ep,hq,h2,h3,h4,_,h5⟩:=dd';refine Jg I (by rw [e]; exact True.intro) hs ⟨q,hq⟩ ⟨hl,hd,_,(rel.put k eb rv).keeps λc ys ec=>?_,q,es,ep,hq,h2,h3,h4,h5⟩
  rw [za (zy ec e (λz=>nomatch z))]
  exact ec
end
section
variable {X:Cx} {pins:List (Addr × Obj)} {σ:St} {H:Hp} {s:Shared} {a:Addr} {kvs:List (Key × V)} {k:Key} {u:Value} {A:Around} {E:Value->Shared->Prop}
end
noncomputable def NoSl (i:Expr):Prop:=∀ ov iv,subscripted i false ov iv=operate [ov,iv] (getItem ov iv)
theorem subD_of {prog:Program} {w:World} {A:Around} {E:Value->Shared->Prop} {s:Shared} {env:Env} {value slice:Expr} {pos:Pos} {T id:String} {Q:Value->Shared->Prop}
  (hl:typeLookup (.type T) "__getitem__"=pure (some (.builtin id))) (hs:NoSl slice)
  (h:wpAny (model prog w) A (eval value env) (λo s₁=>wpAny (model prog w) A (eval slice env) (λi s₂=>s₂.TypeIs o T/\wpAny (model prog w) A (getItem o i) Q E s₂) E s₁) E s) :
  wpAny (model prog w) A (eval (.Subscript value slice pos) env) Q E s:=by
 refine Subscript_ (wpAny_mono h (λo s₁ h₁=>wpAny_mono h₁ (λi s₂ h₂=>?_) λ_ _ x=>x) λ_ _ x=>x)
 obtain ⟨hT,h₂⟩:=h₂;unfold subscriptTail;refine wpAny_bind ?_;rw [getitemInPython_of_ne hT.not_modules];refine wpAny_bind (wpAny_specialOf hT hl ?_);have fin:wpAny (model prog w) A (subscripted slice false o i) (λr s₃=>wpAny (model prog w) A (letTemporaryGo value o r >>= λ_=>pure r) Q E s₃) E s₂:=by
  rw [hs o i];exact wpAny_operating (wpAny_mono h₂ (λr s₃ h₃=>wpAny_bind (wpAny_letTemporaryGo (wpAny_pure h₃))) λ_ _ x=>x)
 first
  |exact wpAny_pure (wpAny_bind fin)
  |exact wpAny_bind (wpAny_pure (wpAny_bind fin))
  |exact wpAny_bind fin
theorem dict_typeIs {X:Cx} {pins:List (Addr × Obj)} {σ:St} {H:Hp} {s:Shared} {a:Addr} {y:V} {o:Option V} (I:Inv X pins σ H s) (g:DGet H a y o):s.TypeIs (.ref a) "dict":=by
 rcases g with ⟨kvs,k,e,_,_⟩|⟨kvs,k,b,e,_,_,_⟩
 ·obtain ⟨_,_,vs,_,dd⟩:=dk_rd I.hok e;exact dd.typeIs
 ·obtain ⟨_,_,xs,_,dd⟩:=dt_rd I.hok e;exact dd.typeIs
noncomputable def tDGet (td ty:TE):TE:=λσ H Q=>td σ H λx H1=>ty σ H1 λy H2=>∃ a v,x=.ref a/\DGet H2 a y (some v)/\Q v H2
noncomputable def sDPut (td ty tv:TE):TS:=λD σ H=>tv σ H λv H1=>td σ H1 λx H2=>ty σ H2 λy H3=>∃ a H4,x=.ref a/\DPut H3 a y v H4/\D.nx σ H4
section
variable {X:Cx} {o i e value:Expr} {pos pos' tpos:Pos} {td ty tv:TE}
theorem ZZ (hu:X.A.units+1 < cLine) (ho:PE X o td) (hi:PE X i ty) (hs:NoSl i):PE X (.Subscript o i pos) (tDGet td ty):=by
 intro pins s σ H Q I h;refine subD_of PySem.F.slot_dict_getitem.lookup hs (thn (ho pins s σ H _ I h) λu s1 ⟨x,H1,I1,rx,q1⟩=>thn (hi pins s1 σ H1 _ I1 q1) λiv s2 zz=>?_)
 obtain ⟨y,H2,I2,ry,a,v,ex,g,q2⟩:=zz;subst ex;obtain rfl:u=Value.ref a:=rx;exact ⟨dict_typeIs I2 g,d_getItem hu I2 g ry λw' s3 I3 rw'=>⟨v,H2,I3,rw',q2⟩⟩
theorem ps_dput (hu:X.A.units+1 < cLine) (ho:PE X o td) (hi:PE X i ty) (hv:PE X value tv) (hs:swapsWith value (some (.Subscript o i pos')) pos.line X.env=pure false) :
  PS X (.Assign [.Subscript o i pos'] value pos) (sDPut td ty tv):=by
 intro pins s σ H D I h;refine wpAny_Assign_Subscript (thn (hv pins s σ H _ I h) λr s1 ⟨v,H1,I1,rv,q1⟩=>thn (ho pins s1 σ H1 _ I1 q1) λu s2 ⟨x,H2,I2,rx,q2⟩=>thn (hi pins s2 σ H2 _ I2 q2) λiv s3 ⟨y,H3,I3,ry,a,H4,ex,g,q3⟩=>?_) hs
 subst ex;obtain rfl:u=Value.ref a:=rx;exact d_setItem hu I3 g ry rv λs4 I4=>⟨σ,H4,I4,q3⟩
end
theorem dt_empty {P:Program} {w:World} {H:Hp} (h:Heap) (hb:sysModules < h.objs.size):zu P w H (h.push {cls:=.type "dict",data:=.dict #[]}) h.objs.size (.dT []):=
 ⟨Nat.zero_le _,beq_eq_false_iff_ne.mpr (Ne.symm (Nat.ne_of_lt hb)),[],.nil,_,#[],0,Heap.get?_push_size _ rfl,⟨rfl,rfl,rfl⟩,rfl,rfl,List.nodup_nil⟩
noncomputable def tDNewT:TE:=λ_ H Q=>∀ p,H p=none->Q (.ref p) (upd H p (.dT []))
section
variable {X:Cx} {pos:Pos}
theorem pe_dnewT:PE X (.Dict [] [] pos) tDNewT:=λpins s σ H Q I h=>
 wpAny_Dict_empty ⟨.ref s.heap.objs.size,_,I.laid (a:=s.heap.objs.size) (o:=.dT []) (t':=s.toks) (λ_ _ q=>Heap.get?_push_of_some _ q) (Nat.le_refl _) (dt_empty s.heap I.big),rfl,h _ (I.hok.fresh (Nat.le_refl _))⟩
end
end L2
namespace Kw
open PySem PySem.Spec PyProof.Rows L2
section
variable {β:Type} {R:V->β->Prop} {xs:List V} {bs:List β}
end
section
variable {prog:Program} {w:World} {K:Type} [DecidableEq K] {knd:HeapKind prog w K} {A:Around} {E:Value->Shared->Prop} {s:Shared}
theorem iter_raw {d:Addr} {od:Obj} {es:Array DictEntry} {ep:Nat} {Q:Value->Shared->Prop} (hd:(d == sysModules)=false) (ho:s.heap.get? d=some od) (hc:od.ExactDict) (hdat:od.data=.dict es ep)
  (hQ:Q (.ref s.heap.objs.size) {s with heap:=s.heap.push {cls:=.type "dict_keyiterator",data:=.fields #[.ref d,.int 0 0,.int es.size 0,.int ep 0]}}) :
  wpAny (model prog w) A (pyIter (.ref d)) Q E s:=by
 have hT:s.TypeIs (.ref d) "dict":=⟨od,ho,hc.1⟩;refine wpAny_pyIter_slot hT F.slot_dict_iter (wpAny_call_entry F.slot_dict_iter hT F.entry_dict_iter ?_ (F.args_dict_iter_1 _));unfold Builtin.«dict.__iter__»;refine wpAny_bind ?_;unfold Builtin.Dict.dictSlotNone;refine wpAny_bind (wpAny_notOrdered_dict hT ?_);show wpAny _ _ (pure (Value.ref d)) _ _ s;refine wpAny_pure ?_;show wpAny _ _ (Builtin.Dict.showsAll d >>= _) _ _ s;unfold Builtin.Dict.showsAll;rw [if_neg (by rw [hd]; exact Bool.false_ne_true)]
 refine wpAny_bind (wpAny_pure ?_);refine wpAny_bind (wpAny_dictEntries ho hdat ?_);refine wpAny_bind (wpAny_dictEpoch ho hdat ?_);refine wpAny_bind (wpAny_newObj_type (wpAny_pure ⟨_,rfl,"dict_keyiterator",_,⟨_,Heap.get?_push_size _ rfl,rfl⟩,F.slot_dict_keyiterator_next.lookup,?_⟩));simpa [rawInt] using hQ
theorem next_raw {it d:Addr} {i ep:Nat} {od:Obj} {es:Array DictEntry} {Q:Option Value->Shared->Prop} (hit:s.heap.IsKeyIter it d i es.size ep) (hod:s.heap.get? d=some od) (hdd:od.data=.dict es ep) (hlt:i < es.size)
  (hQ:∀ h',h'.IsKeyIter it d (i+1) es.size ep->Heap.SameBut it s.heap h'->Q (some es[i].key) {s with heap:=h'}) :
  wpAny (model prog w) A (pyNext (.ref it)) Q E s:=by
 obtain ⟨o,ho,hc,hd⟩:=id hit;unfold pyNext
 refine wpAny_bind (wpAny_attempt (wpAny_callSpecial?_slot (name:=Str.ofString "__next__") hit.typeIs F.slot_dict_keyiterator_next
  (wpAny_call_entry F.slot_dict_keyiterator_next hit.typeIs F.entry_dict_keyiterator_next ?_ (F.args_dict_keyiterator_next_1 _))))
 refine wpAny_bind (wpAny_pure ?_);refine wpAny_bind ?_;refine wpAny_bind ?_
 first|refine wpAny_bind (wpAny_typeNameOfWhole_keyiter hit.typeIs (wpAny_pure ?_))|refine wpAny_bind (wpAny_typeNameOf_keyiter hit.typeIs (wpAny_pure ?_))
 refine wpAny_bind (wpAny_fieldsOf ho hd ?_);have hown:Builtin.Dict_items.ownsTuple "dict_keyiterator"=false:=by decide
 simp only [hown,Bool.false_eq_true,if_false];show wpAny _ _ (if (Value.ref d == Value.none)=true then _ else _) _ _ s
 rw [if_neg (show ¬ ((Value.ref d == Value.none)=true) from Bool.false_ne_true)];refine wpAny_bind (wpAny_pure ?_);refine wpAny_bind (wpAny_dictEntries hod hdd ?_);rw [if_neg (by simp)]
 refine wpAny_bind (wpAny_pure ?_);refine wpAny_bind (wpAny_dictEpoch hod hdd ?_);rw [if_neg (by simp)]
 refine wpAny_pure ?_;simp only [show ¬ ((i:Int) < 0) from by omega,if_false,Int.toNat_natCast,Array.getElem?_eq_getElem hlt]
 refine wpAny_bind ?_
 first|refine wpAny_bind (wpAny_typeNameOfWhole_keyiter hit.typeIs (wpAny_pure ?_))|refine wpAny_bind (wpAny_typeNameOf_keyiter hit.typeIs (wpAny_pure ?_))
 refine wpAny_bind (wpAny_isOneOf_keyiter hit.typeIs ?_);show wpAny _ _ (setField (.ref it) 1 (rawInt ((i:Int)+1)) >>= _) _ _ s;refine wpAny_bind (wpAny_setField ho hd (by simp) ?_)
 have hit':(s.heap.update it (Obj.mapFields (·.setIfInBounds 1 (rawInt ((i:Int)+1))))).IsKeyIter it d (i+1) es.size ep:=
  ⟨_,Heap.get?_update_self _ ho (Obj.isFreed_of_fields (Obj.data_mapFields hd _)),(Obj.cls_mapFields ..).trans hc,by rw [Obj.data_mapFields hd]; simp [rawInt]⟩
 refine wpAny_bind (wpAny_holding ?_);refine wpAny_bind (wpAny_isOneOf_keyiter (s:={s with heap:=s.heap.update it (Obj.mapFields (·.setIfInBounds 1 (rawInt ((i:Int)+1))))}) hit'.typeIs ?_)
 show wpAny _ _ (pure es[i].key) _ _ _;exact wpAny_pure (wpAny_pure ⟨_,rfl,wpAny_pure (hQ _ hit' (Heap.SameBut.update ..))⟩)
theorem end_raw {it d:Addr} {i ep:Nat} {od:Obj} {es:Array DictEntry} {Q:Option Value->Shared->Prop} (hh:A.handled=none) (hit:s.heap.IsKeyIter it d i es.size ep) (hod:s.heap.get? d=some od) (hdd:od.data=.dict es ep) (hge:es.size<=i)
  (hQ:∀ h',Heap.ExtBut it s.heap h'->Q none {s with heap:=h'}):wpAny (model prog w) A (pyNext (.ref it)) Q E s:=by
 obtain ⟨o,ho,hc,hd⟩:=id hit;unfold pyNext
 refine wpAny_bind (wpAny_attempt (wpAny_callSpecial?_slot (name:=Str.ofString "__next__") hit.typeIs F.slot_dict_keyiterator_next
  (wpAny_call_entry F.slot_dict_keyiterator_next hit.typeIs F.entry_dict_keyiterator_next ?_ (F.args_dict_keyiterator_next_1 _))))
 refine wpAny_bind (wpAny_pure ?_);refine wpAny_bind ?_;refine wpAny_bind ?_
 first|refine wpAny_bind (wpAny_typeNameOfWhole_keyiter hit.typeIs (wpAny_pure ?_))|refine wpAny_bind (wpAny_typeNameOf_keyiter hit.typeIs (wpAny_pure ?_))
 refine wpAny_bind (wpAny_fieldsOf ho hd ?_);have hown:Builtin.Dict_items.ownsTuple "dict_keyiterator"=false:=by decide
 simp only [hown,Bool.false_eq_true,if_false];show wpAny _ _ (if (Value.ref d == Value.none)=true then _ else _) _ _ s
 rw [if_neg (show ¬ ((Value.ref d == Value.none)=true) from Bool.false_ne_true)];refine wpAny_bind (wpAny_pure ?_);refine wpAny_bind (wpAny_dictEntries hod hdd ?_);rw [if_neg (by simp)]
 refine wpAny_bind (wpAny_pure ?_);refine wpAny_bind (wpAny_dictEpoch hod hdd ?_);rw [if_neg (by simp)]
 refine wpAny_pure ?_;simp only [show ¬ ((i:Int) < 0) from by omega,if_false,Int.toNat_natCast,Array.getElem?_eq_none hge]
 refine wpAny_bind ?_
 first|refine wpAny_bind (wpAny_typeNameOfWhole_keyiter hit.typeIs (wpAny_pure ?_))|refine wpAny_bind (wpAny_typeNameOf_keyiter hit.typeIs (wpAny_pure ?_))
 show wpAny _ _ (setField (.ref it) 0 .none >>= _) _ _ s;refine wpAny_bind (wpAny_setField ho hd (by simp) ?_)
 show wpAny _ _ (newExc (.type "StopIteration") [] >>= _) _ _ _;refine wpAny_bind ?_;simp only [newExc,newTuple];refine wpAny_bind (wpAny_newObj_type ?_ (by size_fits))
 refine wpAny_bind (m:=firstArgMember _ _) (wpAny_of_eq (a:=Value.none) (by first|rfl|(simp only [firstArgMember]; rfl)) ?_)
 refine wpAny_newObj_type ?_ (by size_fits)
 simp only [raiseNew];refine wpAny_bind (wpAny_handled ?_);rw [show A.in1.handled=none from hh];refine wpAny_bind (wpAny_pure (wpAny_throw ?_));refine wpAny_bind (wpAny_isInstance (T:="StopIteration") (b:=true) ⟨_,Heap.get?_push_size _ rfl,rfl⟩ isSubtype_stop ?_);exact wpAny_pure (hQ _ (((Heap.SameBut.update ..).extBut.push _).push _))
end
theorem YT {n:Nat} (h:n+100 < cLine):n+1 < cLine:=by omega
noncomputable def Itd (a:Addr) (o:Obj) (kvs:List (List Key × V)):It:=
 ⟨λi H=>H a=some (.frz o (.dT kvs))/\i < kvs.length,λi H x H'=>H'=H/\∃ (b:Addr) (kv:List Key × V),kvs[i]?=some kv/\x=.ref b/\H b=some (.tup (kv.1.map kV)),λi H=>H a=some (.frz o (.dT kvs))/\kvs.length<=i⟩
theorem kt_get {H:Hp}:∀ {kvs:List (List Key × V)} {xs:List (List Key × Addr × Value)},KT H kvs xs->∀ {i:Nat} {kv:List Key × V},kvs[i]?=some kv->∃ x,xs[i]?=some x/\H x.2.1=some (.tup (kv.1.map kV)):=by
 intro kvs xs r;induction r with
 |nil=>intro i kv h; simp at h
 |@cons p q ps qs h t ih=>
  intro i kv hk;cases i with
  |zero=>
   simp only [List.getElem?_cons_zero,Option.some.injEq] at hk;subst hk;exact ⟨q,rfl,h.2.1⟩
  |succ j=>
   simp only [List.getElem?_cons_succ] at hk;exact ih hk
theorem turn_dict {P:Program} {w:World} {K:Frag} {tg:Expr} (a it:Addr) (o:Obj) (es:Array DictEntry) (ep:Nat) (kvs:List (List Key × V)) (hd:o.data=.dict es ep) (hl:es.size=kvs.length):Turn P w K tg (Itd a o kvs) [it] it (λi h=>h.IsKeyIter it a i es.size ep) where
 mem:=by simp
 obj:=λi h st b hb=>by
  have e:b=it:=by simpa using hb
  subst e;obtain ⟨o,e,c,d⟩:=st;exact ⟨o,e,λv z=>by rw [d] at z; cases z⟩
 keep:=λi h h' st k=>st.at λo e=>k it (by simp) o e
 item:=by
  intro X hP hw hK hc i pins s σ H E I hf st hg;subst hP hw hK;obtain ⟨hq,hi⟩:=hg;obtain ⟨ho,_,_,xs,rel,o',es',ep',ho',_,hd',he',_⟩:=(show s.heap.get? a=some o/\zu X.prog X.w H s.heap a (.dT kvs) from I.hok a _ hq);rw [ho] at ho';cases ho'
  rw [hd] at hd';cases hd'
  obtain ⟨f0,f1,f2,f3,f4,f5⟩:=hf it (by simp)
  have hlt:i < es.size:=by omega
  refine next_raw st ho hd hlt λh' st' sb=>?_
  have I1:Inv X pins σ H {s with heap:=h'}:=I.turned (t':=s.toks) (λb o hb e=>(sb.2 b hb).trans e) f0 f1 f3 f4 f5
  obtain ⟨ob,e,c,d⟩:=id st';obtain ⟨x,hx,hb⟩:=kt_get rel (List.getElem?_eq_getElem hi);have ek:es[i].key=.ref x.2.1:=by
   have z:=entry_at (knd:=tupleKind (yF X.prog X.w)) he' i;rw [hx,Array.getElem?_eq_getElem hlt] at z;have z':=Option.some.inj z;rw [z'];rfl
  rw [ek];exact ⟨_,rfl,go_of (s:={s with heap:=h'}) e c d (by decide) ⟨.ref x.2.1,H,I1,rfl,⟨rfl,_,_,List.getElem?_eq_getElem hi,rfl,hb⟩,st',λb hb=>(hf b hb).1⟩⟩
 done:=by
  intro X hP hw hK hc i pins s σ H E I hf st hg;subst hP hw hK;obtain ⟨hq,hi⟩:=hg;obtain ⟨ho,_⟩:=(show s.heap.get? a=some o/\zu X.prog X.w H s.heap a (.dT kvs) from I.hok a _ hq);obtain ⟨f0,f1,f2,f3,f4,f5⟩:=hf it (by simp)
  exact end_raw (I.ok.hd hc) st ho hd (by omega) λh' eb=>⟨rfl,I.turned (t':=s.toks) (λb o hb e=>eb b o hb e) f0 f1 f3 f4 f5⟩
 self:=λ_ _ _ _ _ st h=>wpAny_pyIter_keyiter st h
noncomputable def iDict (tl:TE):TI:=λσ H R=>tl σ H λx H1=>∃ (a:Addr) (kvs:List (List Key × V)),x=.ref a/\H1 a=some (.dT kvs)/\∀ o,R (Itd a o kvs) (upd H1 a (.frz o (.dT kvs)))
theorem Jk {X:Cx} {tg:Expr} {l:Expr} {tl:TE} (hl:PE X l tl):PI X tg l (iDict tl):=by
 intro pins s σ H R I h;refine thn (hl pins s σ H _ I h) λv s1 zz=>?_
 obtain ⟨x,H1,I1,r1,q1⟩:=zz;obtain ⟨a,kvs,rfl,hq,q⟩:=q1;cases r1
 obtain ⟨hz,hm,xs,rel,o,es,ep,ho,hc,hd,he,hn⟩:=(show zu X.prog X.w H1 s1.heap a (.dT kvs) from I1.hok a _ hq);have len:es.size=kvs.length:=by rw [size_of_entries he,Paired.length rel]
 have kp:∀ c ys,H1 c=some (HO.tup ys)->upd H1 a (.frz o (.dT kvs)) c=some (.tup ys):=λc ys ec=>by
  rw [za (zy ec hq (λz=>nomatch z))]
  exact ec
 have I2:Inv X pins σ (upd H1 a (.frz o (.dT kvs))) {s1 with heap:=s1.heap,toks:=s1.toks}:=Jg I1 (by rw [hq]; exact True.intro) ⟨rfl,λ_ _=>rfl⟩ ⟨o,ho⟩ ⟨ho,hz,hm,xs,KT.keeps rel kp,o,es,ep,ho,hc,hd,he,hn⟩
 refine iter_raw hm ho hc hd ?_;refine ⟨s1.heap.objs.size,[s1.heap.objs.size],_,_,_,rfl,I2.kept (t':=s1.toks) λb o e=>Heap.get?_push_of_some _ e,turn_dict a _ o es ep kvs hd len,⟨_,Heap.get?_push_size _ rfl,rfl,rfl⟩,λb hb=>?_,q o⟩
 have e:b=s1.heap.objs.size:=by simpa using hb
 subst e;exact I2.fpOk (Nat.le_refl _) (I2.hok.fresh (Nat.le_refl _))
theorem for_dict {a:Addr} {o:Obj} {kvs:List (List Key × V)} {g:TG} {tb:TS} {D:Ends} {σ:L2.St} {H:Hp} (Pv:Nat->L2.St->Hp->Prop) (h0:Pv 0 σ H) (hl:∀ i σ H,i<=kvs.length->Pv i σ H->H a=some (.frz o (.dT kvs)))
  (hs:∀ i kv b σ H,kvs[i]?=some kv->H b=some (.tup (kv.1.map kV))->Pv i σ H->g (.ref b) σ H λσ2 H2=>tb {D with nx:=Pv (i+1),ct:=Pv (i+1),bk:=D.nx} σ2 H2) (hd:∀ σ H,Pv kvs.length σ H->D.nx σ H) :
  ∃ W:Nat->Nat->L2.St->Hp->Prop,(∃ m,W 0 m σ H)/\∀ i m σ H,W i m σ H->
   ((Itd a o kvs).stop i H/\D.nx σ H)\/((Itd a o kvs).go i H/\∃ N:L2.St->Hp->Prop,(∀ σ' H',N σ' H'->∃ m',m' < m/\W (i+1) m' σ' H')/\∀ x H',(Itd a o kvs).yld i H x H'->g x σ H' λσ2 H2=>tb {D with nx:=N,ct:=N,bk:=D.nx} σ2 H2):=by
 refine ⟨λi m σ H=>m=kvs.length - i/\i<=kvs.length/\Pv i σ H,⟨kvs.length,by simp,Nat.zero_le _,h0⟩,?_⟩
 rintro i m σ H ⟨rfl,hi,p⟩;have q:=hl i σ H hi p;by_cases hlt:i < kvs.length
 ·refine .inr ⟨⟨q,hlt⟩,Pv (i+1),λσ' H' p'=>⟨kvs.length - (i+1),by omega,rfl,hlt,p'⟩,λx H' y=>?_⟩
  obtain ⟨e,b,kv,hk,ex,hb⟩:=y;subst e ex;exact hs i kv b σ _ hk hb p
 ·have e:i=kvs.length:=by omega
  subst e;exact .inl ⟨⟨q,Nat.le_refl _⟩,hd σ H p⟩
noncomputable def frd (q:Rat):PyData:=.tuple [.int q.num,.int ((q.den:Nat):Int)]
theorem eqv_2 (a b c d:Int):PyData.eqv (.tuple [.int a,.int b]) (.tuple [.int c,.int d])=(decide (a=c) && decide (b=d)):=by
 show ((a == c) && ((b == d) && true))=_;rw [Bool.and_true];congr 1
theorem op_neQ {X:Cx} {K:Frag} (hK:X.K=K) (hu:X.A.units+100 < cLine):OpR X (compareOp .NotEq) (λa b H Q=>∃ (p q:Addr) (x y:Rat),a=.ref p/\b=.ref q/\FQ K H p x/\FQ K H q y/\Q (.bl (!decide (x=y))) H):=by
 intro pins s σ H a b v u Q I rx ry h;obtain ⟨p,q,x,y,rfl,rfl,hx,hy,k⟩:=h;refine op_neD hK hu pins s σ H _ _ v u Q I rx ry ⟨_,_,FQ.dp hx,FQ.dp hy,rfl,rfl,Nat.le_trans (Nat.min_le_left _ _) (show (1:Nat)<=60 by decide),?_⟩
 rw [eqv_2,<- Bool.decide_and];have e:(x.num=y.num/\((x.den:Nat):Int)=((y.den:Nat):Int))↔x=y:=⟨λh=>Rat.ext h.1 (by omega),λh=>by rw [h]; exact ⟨rfl,rfl⟩⟩
 rw [decide_eq_decide.mpr e];exact k
noncomputable def zO (s:Stmt) (j:Nat):Stmt:=match s with
 |.ClassDef _ _ _ b _ _ _ _ _ _ _=>b.getD j (.Pass ⟨0,0,0,0⟩)
 |_=>.Pass ⟨0,0,0,0⟩
noncomputable def DfM (K:Frag) (C:Addr) (m qual:Str) (st:Stmt) (ps:List Str):Prop:=
 ∃ (f:Addr) (oc:Value) (od:Option Addr) (kV doc pm:Value) (an:Option Addr) (cdv ct:Value) (osl:Array (Option Value)),
  K.lookup f=some ⟨oc,od,.func (fnOf m qual (zK st) (zJ st) (zD st) .none kV doc pm an cdv ct),osl⟩/\codeIn K cdv qual=true/\Meth K C m f/\
  Zn K (fnOf m qual (zK st) (zJ st) (zD st) .none kV doc pm an cdv ct) ps []
noncomputable def FnM (P:Program) (w:World) (K:Frag) (mg:Str->Option Value) (base:Heap) (k:Nat) (C:Addr) (m:Str) (ps:List Str) (sp:Sp):Prop:=
 ∃ f fd,FnOk P w K mg base (CXE P w) k f fd ps sp/\Meth K C m f/\Zn K fd ps []
section
variable {P:Program} {w:World} {K:Frag} {mg:Str->Option Value} {base:Heap} {C:Addr} {m qual:Str} {st:Stmt} {N ps:List Str} {k:Nat} {sp:Sp}
theorem DfM.ok0 (D:DfM K C m qual st ps) (S:FnScope N ps (zD st)) (len:∀ vs H Q E,sp vs H Q E->vs.length=ps.length)
  (hbody:∀ (f:Addr) (cdv:Value) (A:Around) (outer:List Env) (s:Shared) (H:Hp) (vs:List V) (Q:VK) (E:XK),Room k (A.deeper (envOfC qual (zD st) s.heap.objs.size f cdv))->sp vs H Q E->
   ∃ t,PSs (cxOf (CXE P w) P w K mg base N qual (zD st) f cdv A outer s H E).nox (zJ st) t/\t {nx:=λ_ H'=>Q .non H',rt:=Q} (Yj N vs) H):FnM P w K mg base (k+1) C m ps sp:=by
 obtain ⟨f,oc,od,kV,doc,pm,an,cdv,ct,osl,lk,hcd,M,bd⟩:=D;refine ⟨f,_,fn_of lk hcd S len λA outer s H vs Q E hr hsp=>?_,M,bd⟩
 obtain ⟨t,h,q⟩:=hbody f cdv A outer s H vs Q E hr hsp;exact ⟨t,h.nox,q⟩
theorem yM {f:Addr} {od an:Option Addr} {sl:Array (Option Value)} {oc kV dc pm cd ct:Value} (i:findIn K (.ref C) m=some (some (.ref f)))
  (t:isFn K (.ref f)=true) (l:K.lookup f=some ⟨oc,od,.func (fnOf m qual (zK st) (zJ st) (zD st) .none kV dc pm an cd ct),sl⟩) (q:codeIn K cd qual=true) (kp:keepIn K (.ref f)=true)
  (b:∀ us:List Value,us.length=ps.length->bindArgs (fnOf m qual (zK st) (zJ st) (zD st) .none kV dc pm an cd ct) ⟨us,[]⟩=pure (ps.zip us)):DfM K C m qual st ps:=
 ⟨f,oc,od,kV,dc,pm,an,cd,ct,sl,l,q,⟨i,t,kp⟩,.all b⟩
end
section
variable {X:Cx} {k k':Nat} {C:Addr} {m x f:Str} {ps:List Str} {sp:Sp} {E:XK} {p pos apos pos' tpos:Pos} {o e value:Expr} {es:List Expr} {t:TA} {ta tv:TE}
theorem yb {pl:Sem Bool} (c:Cls X.K C) (F:FnM X.prog X.w X.K X.mg X.base k C m ps sp) (hk:k<=k') (hr:Room k' X.A) (hx:jn (CXE X.prog X.w) X E) (he:PE X o ta) (ha:PA X (e::es) t)
  (hst:starEach (e::es) X.env=(false,eval e X.env)::starEach es X.env:=by rfl) (hpl:(backTo pos (starEach es X.env)).any (·.1)=false:=by rfl)
  (ht:eval (.Call (.Attribute o m apos) (e::es) [] pos) X.env=(do
   let ov <- eval o X.env
   standAt apos.atName
   let (f,first) <- holding [ov] (getMethod ov m pl)
   callWith pos f first (backTo pos (starEach (e::es) X.env)) (backToKw pos (keywordEach [] X.env))):=by rfl) :
  PE X (.Call (.Attribute o m apos) (e::es) [] pos) (tMeth C m sp [] E ta t):=by
 obtain ⟨f,fd,G,hm,bd⟩:=F;exact pe_meth he c hm G (hr.mono hk) bd .nil hx ha hst hpl ht
theorem YD {pl:Sem Bool} (c:Cls X.K C) (F:FnM X.prog X.w X.K X.mg X.base k C m ps sp) (hk:k<=k') (hr:Room k' X.A) (hx:jn (CXE X.prog X.w) X E) (he:PE X o ta)
  (ht:eval (.Call (.Attribute o m apos) [] [] pos) X.env=(do
   let ov <- eval o X.env
   standAt apos.atName
   let (f,first) <- holding [ov] (getMethod ov m pl)
   callWith pos f first (backTo pos (starEach [] X.env)) (backToKw pos (keywordEach [] X.env))):=by rfl) :
  PE X (.Call (.Attribute o m apos) [] [] pos) (tMeth C m sp [] E ta tNil):=by
 obtain ⟨f,fd,G,hm,bd⟩:=F;exact pe_meth0 he c hm G (hr.mono hk) bd .nil hx ht
theorem pe_mko (mk:makesIn X.K C=true) (kp:keepIn X.K (.ref C)=true) (F:FnM X.prog X.w X.K X.mg X.base k C "__init__" ps sp) (hk:k+1<=k') (hr:Room k' X.A) (hg:Gl X x) (hm:X.mg x=some (.ref C)) (hx:jn (CXE X.prog X.w) X E)
  (ha:PA X (e::es) t) (hdb:(x == ("__debug__" : Str))=false:=by decide) (he:starEach (e::es) X.env=(false,eval e X.env)::starEach es X.env:=by rfl) (hpl:(backTo pos (starEach es X.env)).any (·.1)=false:=by rfl) :
  PE X (.Call (.Name x p) (e::es) [] pos) (tMake C sp [] E t):=by
 obtain ⟨f,fd,G,hf,bd⟩:=F;exact pe_make ⟨mk,hf.at_,hf.fn,kp⟩ G (hr.mono hk) hg hm bd .nil hx ha hdb he hpl
noncomputable def tFldC (C:Addr) (ta:TE) (f:Str):TE:=λσ H Q=>ta σ H λx H1=>∃ a dx fs v,x=.ref a/\H1 a=some (.ins C dx fs)/\fs.lookup f=some v/\Q v H1
theorem zW (c:Cls X.K C) (n:yy X.K C f) (he:PE X e ta) (hb:attributeBase e f X.env (eval e X.env)=eval e X.env:=by rfl):PE X (.Attribute e f pos) (tFldC C ta f):=by
 intro pins s σ H Q I h;refine attr_of hb (thn (he pins s σ H _ I h) λu s1 zz=>?_)
 obtain ⟨x,H1,I1,rx,a,dx,fs,v,ex,ea,l,q⟩:=zz;subst ex;obtain rfl:u=Value.ref a:=rx;exact J6 I1 ea c n l λu' s2 I2 ru=>⟨v,H1,I2,ru,q⟩
noncomputable def sFldC (C:Addr) (ta tv:TE) (f:Str):TS:=λD σ H=>tv σ H λy H1=>ta σ H1 λx H2=>∃ a dx fs,x=.ref a/\H2 a=some (.ins C dx fs)/\fs.length < 1000/\
 D.nx σ (upd H2 a (.ins C dx (putF f y fs)))
theorem jU (c:Cls X.K C) (n:yy X.K C f) (ha:PE X o ta) (hv:PE X value tv) (hs:swapsWith value (some (.Attribute o f pos')) pos.line X.env=pure false:=by rfl):PS X (.Assign [.Attribute o f pos'] value pos) (sFldC C ta tv f):=by
 intro pins s σ H D I h;refine plainObj_wpAny_Assign_Attribute (thn (hv pins s σ H _ I h) λu s1 ⟨y,H1,I1,ry,q⟩=>thn (ha pins s1 σ H1 _ I1 q) λov s2 ⟨x,H2,I2,rx,a,dx,fs,ex,ea,l,q2⟩=>?_) hs
 subst ex;obtain rfl:ov=Value.ref a:=rx;exact zAG I2 ea c n l ry λs3 I3=>⟨σ,_,I3,q2⟩
noncomputable def sFldAdd (C:Addr) (ta tv:TE) (f:Str):TS:=λD σ H=>ta σ H λx H1=>∃ a dx fs i,x=.ref a/\H1 a=some (.ins C dx fs)/\fs.lookup f=some (.int i)/\
 tv σ H1 λy H2=>∃ j,y=.int j/\H2=H1/\fs.length < 1000/\D.nx σ (upd H1 a (.ins C dx (putF f (.int (i+j)) fs)))
theorem ps_fldadd (c:Cls X.K C) (n:yy X.K C f) (hop:InOp X .Add rAdd) (ha:PE X o ta) (hv:PE X value tv):PS X (.AugAssign (.Attribute o f tpos) .Add value pos) (sFldAdd C ta tv f):=by
 intro pins s σ H D I h;refine wpAny_AugAssign_AttributeAny (thn (ha pins s σ H _ I h) λov s1 zz=>?_)
 obtain ⟨x,H1,I1,rx,a,dx,fs,i,ex,ea,l,q⟩:=zz;subst ex;obtain rfl:ov=Value.ref a:=rx;refine J6 I1 ea c n l λu s2 I2 ru=>thn (hv pins s2 σ H1 _ I2 q) λw3 s3 zz=>?_
 obtain ⟨y,H2,I3,ry,j,ey,eH,l',q4⟩:=zz;subst ey eH;refine thn (hop pins s3 σ H2 (.int i) (.int j) u w3 (λz H3=>z=.int (i+j)/\H3=H2) I3 ru ry ⟨i,j,rfl,rfl,rfl,rfl⟩) λw4 s4 zz=>?_
 obtain ⟨z,H3,I4,rz,ez,eH3⟩:=zz;subst ez eH3;exact zAG I4 ea c n l' rz λs5 I5=>⟨σ,_,I5,q4⟩
end
noncomputable def Buts (as:List Addr) (H H':Hp):Prop:=∀ a o,a∉as->H a=some o->H' a=some o
section
variable {K:Frag} {H H1 H2:Hp} {as:List Addr}
theorem Buts.refl:Buts as H H:=λ_ _ _ h=>h
theorem Buts.trans (x:Buts as H H1) (y:Buts as H1 H2):Buts as H H2:=λa o n h=>y a o n (x a o n h)
theorem Buts.of (x:Same H H1):Buts as H H1:=λa o _ h=>x a o h
theorem Buts.one {b:Addr} (x:But b H H1) (h:b∈as):Buts as H H1:=λa o n q=>x a o (λe=>n (e▸h)) q
theorem Buts.mono {bs:List Addr} (x:Buts as H H1) (h:∀ a∈as,a∈bs):Buts bs H H1:=λa o n q=>x a o (λe=>n (h a e)) q
noncomputable def NoT (as:List Addr) (H:Hp):Prop:=∀ a∈as,(∀ ys,H a≠some (.tup ys))/\∀ o ys,H a≠some (.frz o (.tup ys))
theorem Buts.tup {p:Addr} {xs:List V} (x:Buts as H H1) (n:NoT as H) (h:SqT K H p xs):SqT K H1 p xs:=by
 rcases h with (h|⟨ob,h⟩)|h
 ·exact .inl (.inl (x _ _ (λm=>(n _ m).1 _ h) h))
 ·exact .inl (.inr ⟨ob,x _ _ (λm=>(n _ m).2 _ _ h) h⟩)
 ·exact .inr h
theorem NoT.nil:NoT [] H:=λ_ h=>nomatch h
theorem NoT.lst {a:Addr} {xs:List V} (h:H a=some (.lst xs)) (r:NoT as H):NoT (a::as) H:=λb hb=>by
 rcases List.mem_cons.mp hb with rfl|hb
 ·rw [h];exact ⟨λ_ z=>(nomatch z),λ_ _ z=>(nomatch z)⟩
 ·exact r b hb
theorem NoT.ins {a C dx:Addr} {fs:List (Str × V)} (h:H a=some (.ins C dx fs)) (r:NoT as H):NoT (a::as) H:=λb hb=>by
 rcases List.mem_cons.mp hb with rfl|hb
 ·rw [h];exact ⟨λ_ z=>(nomatch z),λ_ _ z=>(nomatch z)⟩
 ·exact r b hb
theorem NoT.dct {a:Addr} {kvs:List (List Key × V)} (h:H a=some (.dT kvs)) (r:NoT as H):NoT (a::as) H:=λb hb=>by
 rcases List.mem_cons.mp hb with rfl|hb
 ·rw [h];exact ⟨λ_ z=>(nomatch z),λ_ _ z=>(nomatch z)⟩
 ·exact r b hb
end
section
variable {X:Cx} {pins:List (Addr × Obj)} {σ:L2.St} {H:Hp} {s:Shared}
theorem thaw {a:Addr} {o:Obj} {u:HO} (I:Inv X pins σ H s) (ha:H a=some (.frz o u)) (h0:∀ o u,X.H₀ a≠some (.frz o u)):Inv X pins σ (upd H a u) s:=by
 have nn:∀ {b:Addr},H b=none->upd H a u b=none:=λ{b} h=>by
  rw [za (Ne.symm (zN ha h))];exact h
 have ns:∀ {b:Addr} {ob:HO},H b=some ob->ob≠.frz o u->upd H a u b=some ob:=λ{b ob} h n=>by
  rw [za (zy h ha n)];exact h
 refine ⟨I.ok,I.os,I.bare,⟨I.base.keep,I.base.slot,λb ob e n hx=>nn (I.base.free b ob e n hx),I.base.there,λb xs e=>ns (I.base.tups b xs e) (λz=>nomatch z),λb ob v e=>?_,λb ps e=>?_⟩,I.loc,I.cell,nn I.free,λx c e=>nn (I.freeC x c e),λp hp=>?_,λb ob e=>?_,I.len⟩
 ·have z:=I.base.frzs b ob v e;have ne:b≠a:=λy=>h0 ob v (y▸e)
  rw [za ne];exact z
 ·obtain ⟨more,z⟩:=I.base.tbls b ps e;exact ⟨more,ns z (λz=>nomatch z)⟩
 ·obtain ⟨p1,p2,p3⟩:=I.pin p hp;exact ⟨p1,nn p2,p3⟩
 ·have ho:∀ c y,H c=some (.own y)->upd H a u c=some (.own y):=λc y z=>ns z (λz=>nomatch z)
  have ht:∀ c xs,H c=some (.tup xs)->upd H a u c=some (.tup xs):=λc xs z=>ns z (λz=>nomatch z)
  by_cases ne:b=a
  ·subst ne;rw [zw] at e;cases e
   obtain ⟨_,z⟩:=(show s.heap.get? b=some o/\zu X.prog X.w H s.heap b u from I.hok b _ ha);exact z.stay (λ_ _ _ q=>q) (λc z=>ho c b z) ht
  ·rw [za ne] at e;exact (I.hok b ob e).stay (λ_ _ _ q=>q) (λc z=>ho c b z) ht
noncomputable def Thw (H H':Hp) (q:Hp->Prop):Prop:=∃ (a:Addr) (o:Obj) (kvs:List (List Key × V)),H a=some (.dT kvs)/\H' a=some (.frz o (.dT kvs))/\q (upd H' a (.dT kvs))
theorem Thw.inv {H':Hp} {s':Shared} {σ':L2.St} {q:Hp->Prop} (I:Inv X pins σ H s) (h:Thw H H' q) (I':Inv X pins σ' H' s'):∃ H2,Inv X pins σ' H2 s'/\q H2:=by
 obtain ⟨a,o,kvs,h1,h2,h3⟩:=h;refine ⟨_,thaw I' h2 λo' u' z=>?_,h3⟩
 have y:=I.base.frzs a o' u' z;rw [h1] at y;cases y
noncomputable def tThaw (t:TE):TE:=λσ H Q=>t σ H λv H'=>Thw H H' (Q v)
theorem pe_thaw {e:Expr} {t:TE} (h:PE X e t):PE X e (tThaw t):=by
 intro pins s σ H Q I q;refine thn (h pins s σ H _ I q) λu s' zz=>?_
 obtain ⟨v,H',I',r,th⟩:=zz;obtain ⟨H2,I2,q2⟩:=th.inv I I';exact ⟨v,H2,I2,r,q2⟩
noncomputable def sThaw (t:TS):TS:=λD σ H=>t {nx:=λσ' H'=>Thw H H' (D.nx σ'),rt:=λv H'=>Thw H H' (D.rt v),bk:=λσ' H'=>Thw H H' (D.bk σ'),ct:=λσ' H'=>Thw H H' (D.ct σ')} σ H
theorem ps_thaw {st:Stmt} {t:TS} (h:PS X st t):PS X st (sThaw t):=by
 intro pins s σ H D I q;refine thn (h pins s σ H _ I q) λf s' hf=>?_
 cases f with
 |next=>obtain ⟨σ',H',I',th⟩:=hf; obtain ⟨H2,I2,q2⟩:=th.inv I I'; exact ⟨σ',H2,I2,q2⟩
 |brk=>obtain ⟨σ',H',I',th⟩:=hf; obtain ⟨H2,I2,q2⟩:=th.inv I I'; exact ⟨σ',H2,I2,q2⟩
 |cont=>obtain ⟨σ',H',I',th⟩:=hf; obtain ⟨H2,I2,q2⟩:=th.inv I I'; exact ⟨σ',H2,I2,q2⟩
 |ret u=>obtain ⟨v,σ',H',I',r,th⟩:=hf; obtain ⟨H2,I2,q2⟩:=th.inv I I'; exact ⟨v,σ',H2,I2,r,q2⟩
end
section
variable {X:Cx}
noncomputable def rCatA (K:Frag):R2:=λx y H Q=>∃ a b xs ys,x=.ref a/\y=.ref b/\SqT K H a xs/\SqT K H b ys/\xs.length+ys.length<=sizeLine/\
 (xs=[]->Q (.ref b) H)/\(xs≠[]->ys=[]->Q (.ref a) H)/\(xs≠[]->ys≠[]->∀ p,H p=none->Q (.ref p) (upd H p (.tup (xs++ys))))
theorem op_catA:OpR X (binaryOp .Add) (rCatA X.K):=by
 intro pins s σ H x y v u Q I rx ry h;obtain ⟨a,b,xs,ys,rfl,rfl,ha,hb,hz,q0,q1,q2⟩:=h;by_cases hx:xs=[]
 ·subst hx;cases rx
  cases ry
  obtain ⟨its,r1,p1,_⟩:=I.tuple ha;obtain ⟨aM,r2,p2,_⟩:=I.tuple hb;cases r1
  obtain ⟨⟨cls,dd,data,sl⟩,ho,hc,n,hd⟩:=id p1;obtain ⟨⟨oC,mX,data2,hU⟩,ho2,hc2,n2,fQ⟩:=id p2;simp only at hc hd hc2 fQ;subst hc hd hc2 fQ;exact concat_meets ⟨_,ho,rfl⟩ ⟨_,ho2,rfl⟩ noFill_tuple_add seq_tuple_add PySem.F.slot_tuple_add PySem.F.entry_tuple_add (PySem.F.args_tuple_add_2 _ _)
   (tuple_addW0 a b #[] aM.toArray n n2 dd mX sl hU (by simp)) ⟨ho,ho2,⟨.ref b,H,I,rfl,q0 rfl⟩⟩
 ·exact op_catT pins s σ H _ _ v u Q I rx ry ⟨a,b,xs,ys,rfl,rfl,ha,hb,hx,hz,q1 hx,q2 hx⟩
theorem Y3 {K:Frag} (h:X.K=K):OpR X (binaryOp .Add) (rCatA K):=h▸op_catA
theorem Jq {K:Frag} (h:X.K=K):SlR X (rSlT K):=h▸sl_tup
end
section
variable {K:Frag} {idx:List Nat} {te:TE} {σ:L2.St} {H:Hp} {Q:VK}
theorem lc_tup {a:Addr} {xs:List V} (Pv:Nat->List V->Hp->Prop) (h0:Pv 0 [] H) (hz:xs.length<=sizeLine) (hy:∀ i ys H,Pv i ys H->ys.length=i) (hl:∀ i ys H,Pv i ys H->SqT K H a xs)
  (hs:∀ i x ys H (Q':VK),xs[i]?=some x->Pv i ys H->(∀ v H2,Pv (i+1) (ys++[v]) H2->Q' v H2)->te (stIn (some x) idx σ) H Q') (hd:∀ ys H,Pv xs.length ys H->∀ p,H p=none->Q (.ref p) (upd H p (.lst ys))) :
  YW (Itt K a) idx te σ Q H:=by
 refine ⟨λi m ys H=>m=xs.length - i/\i<=xs.length/\Pv i ys H,⟨xs.length,by simp,Nat.zero_le _,h0⟩,?_⟩
 rintro i m ys H ⟨rfl,hi,p⟩;have q:=hl i ys H p;refine ⟨by rw [hy i ys H p]; omega,?_⟩
 by_cases hlt:i < xs.length
 ·refine .inr ⟨⟨xs,xs[i],q,by simp [hlt]⟩,λy H' yl=>?_⟩
  obtain ⟨e,yl⟩:=yl;subst e;exact hs i y ys _ _ (yl xs q) p λv H2 z=>⟨xs.length - (i+1),by omega,rfl,hlt,z⟩
 ·have e:i=xs.length:=by omega
  subst e;exact .inl ⟨⟨xs,q,Nat.le_refl _⟩,hd ys H p⟩
end
noncomputable def FH (H:Hp) (p:Addr) (x:Rat):Prop:=H p=some (.tup [.int x.num,.int ((x.den:Nat):Int)])
section
variable {K:Frag} {H H':Hp} {p b c:Addr} {x y:Rat} {v:V} {ys:List V}
theorem FH.fq (h:FH H p x):FQ K H p x:=SqT.of h
theorem cut_gt {n:Nat} {i:Int} (h:0 < i) (l:0 < n):¬ (HT.sIx n 0 (some i)=0/\HT.sIx n n none=n):=λ⟨z,_⟩=>by
 rw [show i=((i.toNat:Nat):Int) by omega,HT.sIx_nat] at z
 omega
end
section
variable {X:Cx}
end
section
variable {K:Frag} {H H':Hp} {b c:Addr} {z:V} {k l:Bx} {ys:List V}
end
end Kw
namespace Kw
end Kw
namespace Kw
open PySem PySem.Spec PyProof.Rows L2
theorem FH.lit {H:Hp} {p:Addr} {t b:Int} (h:H p=some (.tup [.int t,.int b])) (e1:0 < b) (e2:Int.gcd t b=1):FH H p (Rat.divInt t b):=by
 obtain ⟨z1,z2⟩:=q_of e1 e2;unfold FH;rw [z1,z2];exact h
section
variable {X:Cx} {mZ oK oM EM EN EO:List Expr} {x1 x2 x3 x4 x5 x6:Nat} {q1 q2 q3 q4 q5 q6 q7 pos:Pos} {t1 t2 t3 t4 t5 t6 t7:TE}
theorem pe_lst1 (h1:PE X (.Tuple mZ x1 q1) t1):PE X (.List [.Tuple mZ x1 q1] pos) (tLst (Z0 t1 tNil)):=yL (zA h1 zB)
theorem YG {i j:Int} {k1 k2}:PE X (.Tuple [.Constant (.int i) k1 q1,.Constant (.int j) k2 q2] x1 pos) (tTup (Z0 (tC (.int i)) (Z0 (tC (.int j)) tNil))):=zQ (zA zC (zA zC zB))
theorem pe_tup7 {x7:Nat} {i:Int} {k7} (h1:PE X (.Tuple mZ x1 q1) t1) (h2:PE X (.Tuple oK x2 q2) t2) (h3:PE X (.Tuple oM x3 q3) t3) (h4:PE X (.Tuple EM x4 q4) t4) (h5:PE X (.Tuple EN x5 q5) t5) (h6:PE X (.Tuple EO x6 q6) t6) :
  PE X (.Tuple [.Tuple mZ x1 q1,.Tuple oK x2 q2,.Tuple oM x3 q3,.Tuple EM x4 q4,.Tuple EN x5 q5,.Tuple EO x6 q6,.Constant (.int i) k7 q7] x7 pos) (tTup (Z0 t1 (Z0 t2 (Z0 t3 (Z0 t4 (Z0 t5 (Z0 t6 (Z0 (tC (.int i)) tNil)))))))):=
 zQ (zA h1 (zA h2 (zA h3 (zA h4 (zA h5 (zA h6 (zA zC zB)))))))
end
theorem com_fb {n:Int} {D B:Nat} (d1:1<=D) (dB:D < 2 ^ B) (nB:n.natAbs < 2 ^ B):FB B ((n:Rat) / (D:Rat)):=by
 have e:(n:Rat) / (D:Rat)=Rat.divInt n (D:Int):=by
  rw [q_dv];rfl
 rw [e];exact FB.fit (by omega) nB (show ((D:Int)).natAbs < 2 ^ B by rw [Int.natAbs_natCast]; exact dB)
theorem JQ {D:Nat} (h:1<=D):(D:Rat)≠0:=by
 intro e;have z:((D:Nat):Rat)=((0:Nat):Rat):=e;have z2:=Rat.natCast_inj.mp z;omega
theorem inv_two {a b:Rat} (ha:a≠0) (hb:b≠0):(a * b)⁻¹=a⁻¹ * b⁻¹:=by
 have i1:=Rat.mul_inv_cancel a ha;have i2:=Rat.mul_inv_cancel b hb;have n:a * b≠0:=λz=>by
  rcases Rat.mul_eq_zero.mp z with z|z
  ·exact ha z
  ·exact hb z
 have i3:=Rat.mul_inv_cancel (a * b) n;grind
open AutoSeq1 (wpAny_loadPart')
section
variable {prog:Program} {w:World} {A:Around} {E:Value->Shared->Prop} {s:Shared}
end
section
variable {prog:Program} {w:World} {A:Around} {E:Value->Shared->Prop} {s:Shared}
end
section
variable {X:Cx}
end
theorem ixN_nat {n j:Nat} (h:j < n):ixN n (j:Int)=some j:=by
 unfold ixN;simp;omega
section
variable {K:Frag} {H H':Hp} {v u:V} {o o':Option Rat} {as:List Addr}
end
section
variable {g sh nw x:Addr} {n i:Int} {j:Addr} {co v:V}
end
section
variable {K:Frag} {H H':Hp} {v:V} {m:Rat × Rat × Nat} {as:List Addr}
end
end Kw
namespace Kw
theorem al_app {β:Type} {R:L2.V->β->Prop}:∀ {xs xs':List L2.V} {ys ys':List β},Al2 R xs ys->Al2 R xs' ys'->Al2 R (xs++xs') (ys++ys')
 |[],_,[],_,_,h=>h
 |_::_,_,_::_,_,h,g=>⟨h.1,al_app h.2 g⟩
 |[],_,_::_,_,h,_=>h.elim
 |_::_,_,[],_,h,_=>h.elim
end Kw
namespace Kw
open PySem PySem.Spec PyProof.Rows L2
structure Bq where
 x:Rat
 y:Rat
 w:Rat
 h:Rat
 u:Rat
 v:Rat
 m:Option Int
noncomputable def Bq.pl (b:Bq) (d:Nat):Rat:=if d=0 then b.x else b.y
noncomputable def Bq.sz (b:Bq) (d:Nat):Rat:=if d=0 then b.w else b.h
noncomputable def Bq.sp (b:Bq) (d:Nat):Rat:=if d=0 then b.u else b.v
noncomputable def Bq.far (b:Bq) (d:Nat):Rat:=b.pl d+b.sz d
noncomputable def Bq.with (b:Bq) (d:Nat) (p s:Rat):Bq:=if d=0 then {b with x:=p,u:=s} else {b with y:=p,v:=s}
noncomputable def hicB (a b:Bq) (d:Nat):Bool:=decide (a.pl d < b.far d) && decide (b.pl d < a.far d)
noncomputable def tchB (a b:Bq) (d:Nat):Bool:=decide (a.far d=b.pl d)
noncomputable def besB (a b:Bq) (d:Nat):Bool:=tchB a b d && hicB a b (1 - d)
noncomputable def crnB (a b:Bq):Bool:=(tchB a b 0 || tchB b a 0) && (tchB a b 1 || tchB b a 1)
noncomputable def atB (t:Rat) (b:Bq):Bq:={b with x:=b.x+b.u * t,y:=b.y+b.v * t}
noncomputable abbrev Pr:=Nat × Int × Int
noncomputable def yh (R:Rat × Rat) (d:Nat) (i:Int):Bq:=
 if d=0 then (if i=-1 then ⟨-1,0,1,R.2,0,0,none⟩ else ⟨R.1,0,1,R.2,0,0,none⟩) else (if i=-1 then ⟨0,-1,R.1,1,0,0,none⟩ else ⟨0,R.2,R.1,1,0,0,none⟩)
noncomputable def bxAt (gs:List Bq) (i:Nat):Bq:=gs.getD i ⟨0,0,1,1,0,0,none⟩
noncomputable def boxB (R:Rat × Rat) (gs:List Bq) (d:Nat) (i:Int):Bq:=if 0<=i then bxAt gs i.toNat else yh R d i
noncomputable def jntP (R:Rat × Rat) (gs:List Bq) (p:Pr):Option Rat:=
 if (boxB R gs p.1 p.2.1).sp p.1<=(boxB R gs p.1 p.2.2).sp p.1 then none else some (((boxB R gs p.1 p.2.2).pl p.1 - (boxB R gs p.1 p.2.1).far p.1) / ((boxB R gs p.1 p.2.1).sp p.1 - (boxB R gs p.1 p.2.2).sp p.1))
noncomputable def prs1 (n d:Nat) (one:Int):List Pr:=(((-2:Int)::(List.range n).map λ(i:Nat)=>(i:Int)).filter λo=>decide (one≠o) && (decide (0<=one) || decide (0<=o))).map λo=>(d,one,o)
noncomputable def prsD (n d:Nat):List Pr:=((-1:Int)::(List.range n).map λ(i:Nat)=>(i:Int)).flatMap (prs1 n d)
noncomputable def prsP (n:Nat):List Pr:=prsD n 0++prsD n 1
noncomputable def metP (R:Rat × Rat) (gs:List Bq) (t:Rat) (p:Pr):Bool:=hicB (atB t (boxB R gs p.1 p.2.1)) (atB t (boxB R gs p.1 p.2.2)) (1 - p.1)
noncomputable def corP (R:Rat × Rat) (gs:List Bq) (p:Pr):Bool:=decide (0<=p.2.1) && (decide (0<=p.2.2) && (decide (jntP R gs p=jntP R gs (1 - p.1,p.2.1,p.2.2)) || decide (jntP R gs p=jntP R gs (1 - p.1,p.2.2,p.2.1))))
noncomputable def Zj (now:Rat) (c o:Option Rat):Bool:=match o with
 |none=>false
 |some t=>if t < now then false else (match c with|none=>true|some s=>decide (t < s))
noncomputable def yc (R:Rat × Rat) (gs:List Bq) (now:Rat) (c:Option Rat) (p:Pr):Option Rat:=
 if (Zj now c (jntP R gs p) && (metP R gs ((jntP R gs p).getD 0) p || corP R gs p))=true then jntP R gs p else c
noncomputable def comP (R:Rat × Rat) (gs:List Bq) (now:Rat):Option Rat:=(prsP gs.length).foldl (yc R gs now) none
noncomputable def cmgP (R:Rat × Rat) (gs:List Bq) (c:Option Rat) (p:Pr):Bool:=decide (c≠none) && decide (jntP R gs p=c)
noncomputable def dueP (R:Rat × Rat) (gs:List Bq) (now:Rat):List Pr:=(prsP gs.length).filter λp=>cmgP R gs (comP R gs now) p && metP R gs ((comP R gs now).getD 0) p
noncomputable def numP (ps:List Pr):List Int:=(ps.map (·.2.1)++ps.map (·.2.2)).filter λi=>decide (0<=i)
noncomputable def twoP (ps:List Pr):Bool:=decide (¬ (numP ps).Nodup)
noncomputable def hemP (R:Rat × Rat) (bs:List Bq) (ps:List Pr):Bool:=(prsP bs.length).any λn=>besB (boxB R bs n.1 n.2.1) (boxB R bs n.1 n.2.2) n.1 && ps.any λp=>decide (p.1=n.1) && (decide (p.2.1=n.2.2) || decide (p.2.2=n.2.1))
noncomputable def cnrP (bs:List Bq) (ps:List Pr):Bool:=(List.range bs.length).any λo=>(List.range o).any λi=>(decide ((i:Int)∈numP ps) || decide ((o:Int)∈numP ps)) && crnB (bxAt bs i) (bxAt bs o)
noncomputable def cloP (R:Rat × Rat) (gs:List Bq) (c:Option Rat):Bool:=(prsP gs.length).any λp=>cmgP R gs c p && corP R gs p
noncomputable def crwP (R:Rat × Rat) (gs:List Bq) (now:Rat):Bool:=
 twoP (dueP R gs now) || (hemP R (gs.map (atB ((comP R gs now).getD 0))) (dueP R gs now) || (cnrP (gs.map (atB ((comP R gs now).getD 0))) (dueP R gs now) || cloP R gs (comP R gs now)))
noncomputable def ptd (a b:Rat × Rat × Option Int):Rat × Rat:=match b.2.2 with
 |none=>(b.1+b.1 - a.1,-a.2.1)
 |some u=>(mixQ a.1 b.1 (a.2.2.getD 1) u,mixQ a.2.1 b.2.1 (a.2.2.getD 1) u)
noncomputable def farG (b:Bq) (d:Nat):Rat × Rat × Option Int:=(b.far d,b.sp d,b.m)
noncomputable def zm (b:Bq) (d:Nat):Rat × Rat × Option Int:=(b.pl d,b.sp d,b.m)
noncomputable def Zk (b:Bq) (d:Nat) (g:Rat × Rat):Bq:=b.with d (g.1 - b.sz d) g.2
noncomputable def Zg (b:Bq) (d:Nat) (g:Rat × Rat):Bq:=b.with d g.1 g.2
noncomputable def prtA (R:Rat × Rat) (gs:List Bq) (p:Pr):List Bq:=
 if 0<=p.2.1 then gs.set p.2.1.toNat (Zk (boxB R gs p.1 p.2.1) p.1 (ptd (farG (boxB R gs p.1 p.2.1) p.1) (zm (boxB R gs p.1 p.2.2) p.1))) else gs
noncomputable def prtP (R:Rat × Rat) (gs:List Bq) (p:Pr):List Bq:=
 if 0<=p.2.2 then (prtA R gs p).set p.2.2.toNat (Zg (boxB R gs p.1 p.2.2) p.1 (ptd (zm (boxB R gs p.1 p.2.2) p.1) (farG (boxB R gs p.1 p.2.1) p.1))) else prtA R gs p
noncomputable def onP (R:Rat × Rat) (gs:List Bq) (now:Rat):List Bq:=(dueP R gs now).foldl (prtP R) gs
noncomputable def mtsP (R:Rat × Rat) (gs:List Bq) (now:Rat):List (Rat × Pr):=(dueP R gs now).map λp=>((comP R gs now).getD 0,p)
inductive RunP (R:Rat × Rat):List Bq->Rat->Nat->String->List (Rat × Pr)->List Bq->Rat->Prop
 |still {gs:List Bq} {now:Rat} {n:Nat} (h:comP R gs now=none):RunP R gs now n "still" [] gs now
 |more {gs:List Bq} {now t:Rat} (h:comP R gs now=some t):RunP R gs now 0 "more" [] gs now
 |crowd {gs:List Bq} {now t:Rat} {n:Nat} (h:comP R gs now=some t) (c:crwP R gs now=true):RunP R gs now (n+1) "crowd" [] gs now
 |step {gs:List Bq} {now t:Rat} {n:Nat} {wd:String} {ms:List (Rat × Pr)} {es:List Bq} {last:Rat} (h:comP R gs now=some t) (c:crwP R gs now=false) (r:RunP R (onP R gs now) t n wd ms es last):RunP R gs now (n+1) wd (mtsP R gs now++ms) es last
noncomputable def wV:Option Int->V
 |none=>.non
 |some m=>.int m
noncomputable def WtO (o:Option Int):Prop:=∀ m,o=some m->1<=m/\m<=1000
noncomputable def BqH (K:Frag) (N:Nat) (H:Hp) (z:V) (b:Bq):Prop:=∃ p a0 a1 a2 a3 a4 a5,z=.ref p/\SqT K H p [.ref a0,.ref a1,.ref a2,.ref a3,.ref a4,.ref a5,wV b.m]/\
 (FQ K H a0 b.x/\FQ K H a1 b.y/\FQ K H a2 b.w/\FQ K H a3 b.h/\FQ K H a4 b.u/\FQ K H a5 b.v)/\(FB N b.x/\FB N b.y/\FB 1990 b.w/\FB 1990 b.h/\FB 1990 b.u/\FB 1990 b.v)/\WtO b.m
noncomputable def GoQ (K:Frag) (N:Nat) (H:Hp) (z:V) (g:Rat × Rat × Option Int):Prop:=∃ p a c,z=.ref p/\SqT K H p [.ref a,.ref c,wV g.2.2]/\FQ K H a g.1/\FQ K H c g.2.1/\FB N g.1/\FB 1990 g.2.1/\WtO g.2.2
section
variable {K:Frag} {H H':Hp} {N M:Nat} {z:V} {b:Bq} {g:Rat × Rat × Option Int} {as:List Addr}
theorem BqH.same (h:BqH K N H z b) (s:Same H H'):BqH K N H' z b:=by
 obtain ⟨p,a0,a1,a2,a3,a4,a5,e,h1,⟨g0,g1,g2,g3,g4,g5⟩,d⟩:=h;exact ⟨p,a0,a1,a2,a3,a4,a5,e,Kw.Same.tup s h1,⟨Kw.Same.tup s g0,Kw.Same.tup s g1,Kw.Same.tup s g2,Kw.Same.tup s g3,Kw.Same.tup s g4,Kw.Same.tup s g5⟩,d⟩
theorem BqH.buts (h:BqH K N H z b) (s:Buts as H H') (n:NoT as H):BqH K N H' z b:=by
 obtain ⟨p,a0,a1,a2,a3,a4,a5,e,h1,⟨g0,g1,g2,g3,g4,g5⟩,d⟩:=h;exact ⟨p,a0,a1,a2,a3,a4,a5,e,s.tup n h1,⟨s.tup n g0,s.tup n g1,s.tup n g2,s.tup n g3,s.tup n g4,s.tup n g5⟩,d⟩
theorem BqH.mono (h:BqH K N H z b) (l:N<=M):BqH K M H z b:=by
 obtain ⟨p,a0,a1,a2,a3,a4,a5,e,h1,g,⟨d0,d1,d⟩,w⟩:=h;exact ⟨p,a0,a1,a2,a3,a4,a5,e,h1,g,⟨d0.mono l,d1.mono l,d⟩,w⟩
theorem zT {vs:List V} {bs:List Bq} (h:Al2 (BqH K N H) vs bs) (s:Same H H'):Al2 (BqH K N H') vs bs:=Al2.imp (λ_ _ z=>z.same s) h
theorem yk {vs:List V} {bs:List Bq} (h:Al2 (BqH K N H) vs bs) (s:Buts as H H') (n:NoT as H):Al2 (BqH K N H') vs bs:=Al2.imp (λ_ _ z=>z.buts s n) h
theorem GoQ.same (h:GoQ K N H z g) (s:Same H H'):GoQ K N H' z g:=by
 obtain ⟨p,a,c,e,h1,h2,h3,d⟩:=h;exact ⟨p,a,c,e,Kw.Same.tup s h1,Kw.Same.tup s h2,Kw.Same.tup s h3,d⟩
theorem d01 {d:Nat} (h:d<=1):d=0\/d=1:=by omega
end
noncomputable def keyP (p:Pr):List Key:=[.inl (p.1:Int),.inl p.2.1,.inl p.2.2]
noncomputable def keyW (d:Nat) (i:Int):List Key:=[.inl (d:Int),.inl i]
theorem keyP_inj {a b:Pr} (h:keyP a=keyP b):a=b:=by
 obtain ⟨a1,a2,a3⟩:=a;obtain ⟨b1,b2,b3⟩:=b;unfold keyP at h;simp only [List.cons.injEq,Sum.inl.injEq,and_true] at h;obtain ⟨h1,h2,h3⟩:=h;have:a1=b1:=by omega
 subst this h2 h3;rfl
noncomputable def OptB (K:Frag) (H:Hp) (v:V) (o:Option Rat):Prop:=(o=none/\v=.non)\/∃ (q:Rat) (p:Addr),o=some q/\v=.ref p/\FQ K H p q/\FB 2000 q
noncomputable def Wls (K:Frag) (H:Hp) (wl:Addr) (R:Rat × Rat):Prop:=∃ w0 w1 w2 w3:V,H wl=some (.dT [(keyW 0 (-1),w0),(keyW 0 (-2),w1),(keyW 1 (-1),w2),(keyW 1 (-2),w3)])/\BqH K 1990 H w0 (yh R 0 (-1))/\BqH K 1990 H w1 (yh R 0 (-2))/\BqH K 1990 H w2 (yh R 1 (-1))/\BqH K 1990 H w3 (yh R 1 (-2))
section
variable {K:Frag} {H H':Hp} {v:V} {o:Option Rat} {as:List Addr} {wl:Addr} {R:Rat × Rat} {a:Addr} {u:HO}
theorem OptB.same (h:OptB K H v o) (s:Same H H'):OptB K H' v o:=by
 rcases h with h|⟨q,p,e,e2,g,d⟩
 ·exact .inl h
 ·exact .inr ⟨q,p,e,e2,Kw.Same.tup s g,d⟩
theorem OptB.buts (h:OptB K H v o) (s:Buts as H H') (n:NoT as H):OptB K H' v o:=by
 rcases h with h|⟨q,p,e,e2,g,d⟩
 ·exact .inl h
 ·exact .inr ⟨q,p,e,e2,s.tup n g,d⟩
theorem OptB.non (h:OptB K H v o):v=.non↔o=none:=by
 rcases h with ⟨e,e2⟩|⟨q,p,e,e2,_⟩
 ·exact ⟨λ_=>e,λ_=>e2⟩
 ·exact ⟨λz=>by (rw [e2] at z; cases z),λz=>by (rw [e] at z; cases z)⟩
theorem optb_same {vs:List V} {os:List (Option Rat)} (h:Al2 (OptB K H) vs os) (s:Same H H'):Al2 (OptB K H') vs os:=Al2.imp (λ_ _ z=>z.same s) h
theorem ya {vs:List V} {os:List (Option Rat)} (h:Al2 (OptB K H) vs os) (s:Buts as H H') (n:NoT as H):Al2 (OptB K H') vs os:=Al2.imp (λ_ _ z=>z.buts s n) h
theorem Wls.same (h:Wls K H wl R) (s:Same H H'):Wls K H' wl R:=by
 obtain ⟨w0,w1,w2,w3,e,h0,h1,h2,h3⟩:=h;exact ⟨w0,w1,w2,w3,s _ _ e,h0.same s,h1.same s,h2.same s,h3.same s⟩
theorem Wls.buts (h:Wls K H wl R) (s:Buts as H H') (n:NoT as H) (nw:wl∉as):Wls K H' wl R:=by
 obtain ⟨w0,w1,w2,w3,e,h0,h1,h2,h3⟩:=h;exact ⟨w0,w1,w2,w3,s _ _ nw e,h0.buts s n,h1.buts s n,h2.buts s n,h3.buts s n⟩
theorem Wls.get (h:Wls K H wl R) {d:Nat} {i:Int} (hd:d<=1) (hi:i=-1\/i=-2):∃ w kvs,H wl=some (.dT kvs)/\valV kvs (keyW d i)=some w/\BqH K 1990 H w (yh R d i):=by
 obtain ⟨w0,w1,w2,w3,e,h0,h1,h2,h3⟩:=h;rcases d01 hd with rfl|rfl
 ·rcases hi with rfl|rfl
  ·exact ⟨w0,_,e,by with_unfolding_all rfl,h0⟩
  ·exact ⟨w1,_,e,by with_unfolding_all rfl,h1⟩
 ·rcases hi with rfl|rfl
  ·exact ⟨w2,_,e,by with_unfolding_all rfl,h2⟩
  ·exact ⟨w3,_,e,by with_unfolding_all rfl,h3⟩
theorem rd_same (h:Rd H a u) (s:Same H H'):Rd H' a u:=h.elim (λz=>.inl (s _ _ z)) λ⟨o,z⟩=>.inr ⟨o,s _ _ z⟩
end
structure NoM (fs:List (Str × V)):Prop where
 one_of:fs.lookup ("one_of" : Str)=none
 other_of:fs.lookup ("other_of" : Str)=none
 joint_of:fs.lookup ("joint_of" : Str)=none
 look_ahead:fs.lookup ("look_ahead" : Str)=none
 is_sooner:fs.lookup ("is_sooner" : Str)=none
 is_coming:fs.lookup ("is_coming" : Str)=none
 meet_at:fs.lookup ("meet_at" : Str)=none
 close_at_a_corner:fs.lookup ("close_at_a_corner" : Str)=none
 meetings:fs.lookup ("meetings" : Str)=none
 boxes_met:fs.lookup ("boxes_met" : Str)=none
 is_crowded:fs.lookup ("is_crowded" : Str)=none
 has_two_meetings:fs.lookup ("has_two_meetings" : Str)=none
 is_hemmed_in:fs.lookup ("is_hemmed_in" : Str)=none
 has_a_corner:fs.lookup ("has_a_corner" : Str)=none
 bodies_at:fs.lookup ("bodies_at" : Str)=none
 part:fs.lookup ("part" : Str)=none
 go_on:fs.lookup ("go_on" : Str)=none
structure PlG (K:Frag) (H:Hp) (C p:Addr) (R:Rat × Rat) (gs:List Bq) (dx:Addr) (fs:List (Str × V)) (wl g:Addr) (xs:List V):Prop where
 ob:H p=some (.ins C dx fs)
 fw:fs.lookup ("walls" : Str)=some (.ref wl)
 fg:fs.lookup ("goings" : Str)=some (.ref g)
 ws:Wls K H wl R
 hg:H g=some (.lst xs)
 al:Al2 (BqH K 1990 H) xs gs
 nm:NoM fs
structure PlJ (K:Frag) (H:Hp) (R:Rat × Rat) (gs:List Bq) (fs:List (Str × V)) (j:Addr) (kvs:List (List Key × V)):Prop where
 fj:fs.lookup ("joints" : Str)=some (.ref j)
 hj:Rd H j (.dT kvs)
 ks:kvs.map (·.1)=(prsP gs.length).map keyP
 js:Al2 (OptB K H) (kvs.map (·.2)) ((prsP gs.length).map (jntP R gs))
structure PlC (K:Frag) (H:Hp) (now:Rat) (c:Option Rat) (fs:List (Str × V)) (nw:Addr) (co:V):Prop where
 fn:fs.lookup ("now" : Str)=some (.ref nw)
 gn:FQ K H nw now
 dn:FB 2000 now
 fc:fs.lookup ("coming" : Str)=some co
 oc:OptB K H co c
section
variable {K:Frag} {H H':Hp} {C p:Addr} {R:Rat × Rat} {gs:List Bq} {dx:Addr} {fs:List (Str × V)} {wl g j nw:Addr} {xs:List V} {kvs:List (List Key × V)} {now:Rat} {c:Option Rat} {co:V} {as:List Addr}
theorem PlG.same (h:PlG K H C p R gs dx fs wl g xs) (s:Same H H'):PlG K H' C p R gs dx fs wl g xs:=⟨s _ _ h.ob,h.fw,h.fg,h.ws.same s,s _ _ h.hg,zT h.al s,h.nm⟩
theorem PlJ.same (h:PlJ K H R gs fs j kvs) (s:Same H H'):PlJ K H' R gs fs j kvs:=⟨h.fj,rd_same h.hj s,h.ks,optb_same h.js s⟩
theorem PlC.same (h:PlC K H now c fs nw co) (s:Same H H'):PlC K H' now c fs nw co:=⟨h.fn,Kw.Same.tup s h.gn,h.dn,h.fc,h.oc.same s⟩
theorem val_at:∀ {kvs:List (List Key × V)} {ps:List Pr} {os:List (Option Rat)} {f:Pr->Option Rat},kvs.map (·.1)=ps.map keyP->Al2 (OptB K H) (kvs.map (·.2)) (ps.map f)->∀ q∈ps,∃ v,valV kvs (keyP q)=some v/\OptB K H v (f q)
 |[],[],_,_,_,_,q,hq=>nomatch hq
 |[],_::_,_,_,h,_,_,_=>nomatch h
 |_::_,[],_,_,h,_,_,_=>nomatch h
 |kv::kvs,p::ps,os,f,h,al,q,hq=>by
  simp only [List.map_cons,List.cons.injEq] at h;obtain ⟨e,r⟩:=h;by_cases z:p=q
  ·subst z;exact ⟨kv.2,Yi e,al.1⟩
  ·have hq':q∈ps:=(List.mem_cons.mp hq).resolve_left λy=>z y.symm
   obtain ⟨v,e1,e2⟩:=val_at (os:=os) r al.2 q hq';exact ⟨v,by rw [Ye (λy=>z (keyP_inj (e▸y)))]; exact e1,e2⟩
theorem PlJ.get (h:PlJ K H R gs fs j kvs) {q:Pr} (hq:q∈prsP gs.length):∃ v,valV kvs (keyP q)=some v/\OptB K H v (jntP R gs q):=val_at (os:=[]) h.ks h.js q hq
end
theorem mem_prs1 {n d:Nat} {one:Int} {q:Pr}:q∈prs1 n d one↔q.1=d/\q.2.1=one/\(q.2.2=-2\/∃ i,i < n/\q.2.2=(i:Int))/\one≠q.2.2/\(0<=one\/0<=q.2.2):=by
 obtain ⟨q1,q2,q3⟩:=q;unfold prs1;simp only [List.mem_map,List.mem_filter,List.mem_cons,List.mem_range,Bool.and_eq_true,Bool.or_eq_true,decide_eq_true_eq,Prod.mk.injEq];constructor
 ·rintro ⟨o,⟨h1,h2,h3⟩,rfl,rfl,rfl⟩;refine ⟨rfl,rfl,?_,h2,h3⟩;rcases h1 with h1|⟨i,hi,e⟩
  ·exact .inl h1
  ·exact .inr ⟨i,hi,e.symm⟩
 ·rintro ⟨rfl,rfl,h1,h2,h3⟩;refine ⟨q3,⟨?_,h2,h3⟩,rfl,rfl,rfl⟩;rcases h1 with h1|⟨i,hi,e⟩
  ·exact .inl h1
  ·exact .inr ⟨i,hi,e.symm⟩
noncomputable def InP (n:Nat) (q:Pr):Prop:=q.1<=1/\(q.2.1=-1\/∃ i,i < n/\q.2.1=(i:Int))/\(q.2.2=-2\/∃ i,i < n/\q.2.2=(i:Int))/\q.2.1≠q.2.2/\(0<=q.2.1\/0<=q.2.2)
theorem mem_prsD {n d:Nat} {q:Pr}:q∈prsD n d↔q.1=d/\(q.2.1=-1\/∃ i,i < n/\q.2.1=(i:Int))/\(q.2.2=-2\/∃ i,i < n/\q.2.2=(i:Int))/\q.2.1≠q.2.2/\(0<=q.2.1\/0<=q.2.2):=by
 unfold prsD;rw [List.mem_flatMap];constructor
 ·rintro ⟨one,h1,h2⟩;obtain ⟨a,rfl,b,c,e⟩:=mem_prs1.mp h2;refine ⟨a,?_,b,c,e⟩;rcases List.mem_cons.mp h1 with h1|h1
  ·exact .inl h1
  ·obtain ⟨i,hi,ei⟩:=List.mem_map.mp h1;exact .inr ⟨i,List.mem_range.mp hi,ei.symm⟩
 ·rintro ⟨a,h1,b,c,e⟩;refine ⟨q.2.1,?_,mem_prs1.mpr ⟨a,rfl,b,c,e⟩⟩;rcases h1 with h1|⟨i,hi,ei⟩
  ·rw [h1];exact List.mem_cons_self ..
  ·rw [ei];exact List.mem_cons_of_mem _ (List.mem_map.mpr ⟨i,List.mem_range.mpr hi,rfl⟩)
theorem zh {n:Nat} {q:Pr}:q∈prsP n↔InP n q:=by
 unfold prsP InP;rw [List.mem_append,mem_prsD,mem_prsD];constructor
 ·rintro (⟨a,r⟩|⟨a,r⟩)
  ·exact ⟨by omega,r⟩
  ·exact ⟨by omega,r⟩
 ·rintro ⟨a,r⟩;rcases d01 a with a|a
  ·exact .inl ⟨a,r⟩
  ·exact .inr ⟨a,r⟩
end Kw
namespace Kw
open PySem PySem.Spec PySem.NumText PyProof.Rows L2
end Kw
namespace Kw
open PySem PySem.Spec PySem.NumText PyProof.Rows L2
section
variable {X:Cx}
theorem any_range_bl (bs:List Bool):(List.range bs.length).any (λi=>bs.getD i false)=bs.any id:=by
 rw [Bool.eq_iff_iff,List.any_eq_true,List.any_eq_true];constructor
 ·rintro ⟨i,hi,h⟩;have hi':=List.mem_range.mp hi;exact ⟨bs[i],List.getElem_mem hi',by simpa [List.getD,hi'] using h⟩
 ·rintro ⟨b,hb,h⟩;obtain ⟨i,hi,rfl⟩:=List.mem_iff_getElem.mp hb;exact ⟨i,List.mem_range.mpr hi,by simpa [List.getD,hi] using h⟩
noncomputable def rAny (K:Frag):List V->Hp->VK->Prop:=λxs H Q=>∃ p,∃ bs:List Bool,xs=[.ref p]/\SqL K H p (bs.map V.bl)/\Q (.bl (bs.any id)) H
theorem call_any {K:Frag} (hK:X.K=K) (hc:X.calm=true):jB X (.builtin "any") (rAny K):=by
 subst hK;intro pins s σ H xs us Q I r h;obtain ⟨p,bs,rfl,hp,q⟩:=h;obtain ⟨u,rfl,rx⟩:=Ze r;cases rx
 obtain ⟨its,r',pl,hz⟩:=I.list hp;have hlen:=r'.length;rw [List.length_map] at hlen;have hlt:p < s.heap.objs.size:=by
  obtain ⟨o,n,e,_⟩:=pl;exact Heap.lt_size e
 refine call_any_walk (wpAny_pyIter_list pl.isList ?_);refine ⟨s.heap.objs.size,[s.heap.objs.size,p],[s.heap.objs.size],its.toArray.size,λi v=>its.toArray[i]?=some v,λi h=>h.IsListIter s.heap.objs.size p i/\h.IsList p its.toArray,λi=>bs.getD i false,rfl,Walks.list (A:=X.A.in1) (I.ok.hd hc) s.heap.objs.size p (Nat.ne_of_lt hlt) its.toArray,⟨⟨_,Heap.get?_push_size _ rfl,rfl,rfl⟩,pl.isList.push _⟩,?_,λh' tk kk=>?_⟩
 ·intro i v z Q' E' hv hq;have hv':its[i]?=some v:=by simpa using hv
  obtain ⟨hi,e⟩:=List.getElem?_eq_some_iff.mp hv';have hi':i < bs.length:=by omega
  have eb:(bs.map V.bl)[i]?=some (V.bl bs[i]):=by rw [List.getElem?_map,List.getElem?_eq_getElem hi']; rfl
  obtain ⟨w',hw,rw'⟩:=r'.get eb;rw [hv'] at hw;cases hw
  cases (show v=Value.bool bs[i] from rw')
  have e2:bs.getD i false=bs[i]:=by simp [List.getD,hi']
  dsimp only at hq;rw [e2] at hq;exact wpAny_truthy_bool hq
 ·rw [List.size_toArray,<- hlen,any_range_bl];refine ⟨.bl (bs.any id),H,I.kept (t':=tk) λb o e=>?_,rfl,q⟩
  exact kk b o (λz=>by
   have e':=List.mem_singleton.mp z;have:=Heap.lt_size e;rw [e'] at this
   exact Nat.lt_irrefl _ this) (Heap.get?_push_of_some _ e)
end
end Kw
namespace Kw
open PySem PySem.Spec PySem.NumText PyProof.Rows L2
section
variable {X:Cx}
end
end Kw
namespace Kw
open PySem PySem.Spec PySem.NumText PyProof.Rows L2
section
variable {prog:Program} {w:World} {A:Around} {E:Value->Shared->Prop} {s:Shared} {I l:Addr} {items:Array Value}
end
section
variable {X:Cx}
end
end Kw
namespace Kw
open PySem PySem.Spec PySem.NumText PyProof.Rows L2
end Kw
namespace Kw
open PySem PySem.Spec PySem.NumText PyProof.Rows L2
end Kw
namespace Kw
open PySem PySem.Spec PySem.NumText PyProof.Rows L2
section
variable {X:Cx}
noncomputable def rInD (K:Frag):V->V->Hp->VK->Prop:=λx y H Q=>∃ (d:PyData) (ds:List PyData),Dp K H x d/\(Dp K H y (.list ds)\/Dp K H y (.tuple ds))/\PyData.canLayAll0 ds=true/\d.canLay0=true/\min (PyData.depthAll ds) d.depth<=60/\Q (.bl (ds.any λz=>PyData.eqv z d)) H
theorem op_inD {K:Frag} (hK:X.K=K) (hu:X.A.units+100 < cLine):OpR X (compareOp .In) (rInD K):=by
 subst hK;intro pins s σ H x y v u Q I rx ry h;obtain ⟨d,ds,hx,hy,cs,cd,dep,q⟩:=h;obtain ⟨as,ra⟩:=hx.reads I rx;rcases hy with hy|hy
 ·obtain ⟨bs,rb⟩:=hy.reads I ry;exact SeqAt.in_list_reads rb ra cs cd (by omega) ⟨.bl _,H,I,rfl,q⟩
 ·obtain ⟨bs,rb⟩:=hy.reads I ry;exact SeqAt.in_tuple_reads rb ra cs cd (by omega) ⟨.bl _,H,I,rfl,q⟩
end
end Kw
namespace Kw
open PySem PySem.Spec PyProof.Rows L2
section
variable {β:Type} {R:V->β->Prop} {xs:List V} {bs:List β}
theorem Al2.app:∀ {xs ys:List V} {bs cs:List β},Al2 R xs bs->Al2 R ys cs->Al2 R (xs++ys) (bs++cs)
 |[],_,[],_,_,h=>h
 |_::_,_,_::_,_,z,h=>⟨z.1,Al2.app z.2 h⟩
 |[],_,_::_,_,z,_=>z.elim
 |_::_,_,[],_,z,_=>z.elim
end
end Kw
namespace Kw
open PySem PySem.Spec PySem.NumText PyProof.Rows L2
section
variable {X:Cx}
end
end Kw
namespace Kw
open PySem PySem.Spec PyProof.Rows L2
section
variable {X:Cx}
end
section
variable {X:Cx} {k k':Nat} {C:Addr} {x:Str} {ps:List Str} {sp:Sp} {E:XK} {p pos:Pos}
end
theorem pe_bmD {X:Cx} {K:Frag} {o e:Expr} {es:List Expr} {to:TE} {t:TA} {name:Str} {apos cpos:Pos} {T id:String} {r:V->List V->Hp->VK->Prop} (hK:X.K=K) (pa:PlainAttrs T) (slot:Slot T name id) (hty:typeOf (.builtin id)=pure (.type "method_descriptor")) (hm:MtR X id r) (ho:PE X o to) (ha:PA X (e::es) t)
  (hbase:attributeBase o name X.env (eval o X.env)=eval o X.env:=by rfl)
  (hfew:((backTo cpos (starEach (e::es) X.env)).all (λx=>!x.1) && (backToKw cpos (keywordEach [] X.env)).all (λx=>x.1.isSome)
   && decide ((e::es).length+([]:List Keyword).length+(if ([]:List Keyword).isEmpty then 0 else 1) < 30))=true:=by rfl)
  (hline:(apos.endLine == cpos.line)=true:=by rfl) (hs:starEach (e::es) X.env=(false,eval e X.env)::starEach es X.env:=by rfl) (hplain:(backTo cpos (starEach es X.env)).any (·.1)=false:=by rfl) :
  PE X (.Call (.Attribute o name apos) (e::es) [] cpos) (tBM K T r to t):=by
 subst hK;exact Ja pa slot hty hm ho ha hbase hfew hline hs hplain
noncomputable def strV (k:String):V:=.str (Str.ofString k)
theorem sqt2 {K:Frag} {A:Addr} {o:Option Addr} {a b:String} {k1 k2:Tok} {n:Nat} {sl:Array (Option Value)} (h:K.lookup A=some ⟨.type "tuple",o,.seq #[.str (Str.ofString a) k1,.str (Str.ofString b) k2] n,sl⟩):∀ H,SqT K H A ([a,b].map strV):=λH=>
 .inr ⟨_,_,_,h,rfl,rfl,by show 2<=sizeLine; decide,.cons ⟨_,rfl⟩ (.cons ⟨_,rfl⟩ .nil)⟩
noncomputable def tGlobS (K:Frag) (ks:List String):TE:=λ_ H Q=>∀ N,(∀ H1,SqT K H1 N (ks.map strV))->Q (.ref N) H
theorem pe_globS3 {X:Cx} {K:Frag} {ks:List String} {x:Str} {pos:Pos} (hK:X.K=K) (hg:Gl X x) (hm:∃ N,X.mg x=some (.ref N)/\∀ H,SqT K H N (ks.map strV)) (hd:(x == ("__debug__" : Str))=false:=by decide):PE X (.Name x pos) (tGlobS K ks):=by
 obtain ⟨N,hm,hN⟩:=hm;intro pins s σ H Q I h;exact pe_glob hg hm (v:=.ref N) rfl hd pins s σ H Q I (h N hN)
noncomputable def dd (ns:List Int):List Int:=ns.foldl step_dedup []
theorem first_dd (ns:List Int):firstMet (λi=>ns.getD i 0) ns.length=dd ns:=by
 unfold firstMet dd;congr 1;refine List.ext_getElem? λi=>?_
 rw [List.getElem?_map];by_cases h:i < ns.length
 ·rw [List.getElem?_range h,List.getElem?_eq_getElem h];simp [List.getD_eq_getElem?_getD,List.getElem?_eq_getElem h]
 ·rw [List.getElem?_eq_none (by simpa using h),List.getElem?_eq_none (by omega)]
  rfl
theorem dd_fold:∀ (ns σ:List Int),σ.Nodup->(ns.foldl step_dedup σ).length<=σ.length+ns.length/\((ns.foldl step_dedup σ).length=σ.length+ns.length↔(σ++ns).Nodup)
 |[],σ,h=>by simp [h]
 |n::ns,σ,h=>by
  rw [List.foldl_cons];by_cases e:σ.any (· == n)=true
  ·have m:n∈σ:=by simpa [List.any_eq_true,beq_iff_eq] using e
   have es:step_dedup σ n=σ:=if_pos e;rw [es];have ih:=dd_fold ns σ h;refine ⟨by simp; omega,⟨λz=>?_,λz=>?_⟩⟩
   ·simp only [List.length_cons] at z;omega
   ·have:=(List.nodup_append.mp z).2.2 n m n (List.mem_cons_self ..);exact absurd rfl this
  ·have m:n∉σ:=by simpa [List.any_eq_true,beq_iff_eq] using e
   have es:step_dedup σ n=σ++[n]:=if_neg e;rw [es];have h':(σ++[n]).Nodup:=List.nodup_append.mpr ⟨h,by simp,λa ha b hb e=>m (by rw [List.mem_singleton.mp hb] at e; exact e▸ha)⟩
   have ih:=dd_fold ns (σ++[n]) h';rw [List.length_append,List.length_singleton] at ih;rw [show σ++n::ns=σ++[n]++ns by simp]
   refine ⟨by simp; omega,?_⟩
   rw [<- ih.2];simp only [List.length_cons];omega
theorem dd_two (ns:List Int):(dd ns).length < ns.length↔¬ ns.Nodup:=by
 have z:=dd_fold ns [] List.nodup_nil;simp only [List.length_nil,Nat.zero_add,List.nil_append] at z;unfold dd;rw [<- z.2];omega
section
variable {X:Cx}
theorem call_setI (hc:X.calm=true):jB X (.type "set") (λxs H Q=>∃ p ns,xs=[.ref p]/\SqL X.K H p (ns.map V.int)/\ns.length < 4000/\∀ l,H l=none->Q (.ref l) (upd H l (.set (λk=>(dd ns).any (· == k)) (dd ns).length))):=by
 intro pins s σ H xs us Q I r h;obtain ⟨p,ns,rfl,hq,h64,q⟩:=h;obtain ⟨u,rfl,rx⟩:=Ze r;cases rx
 obtain ⟨its,r',pl,hz⟩:=I.list hq;have hlen:=r'.length;rw [List.length_map] at hlen;refine PySem.call_set_list (I.ok.hd hc) pl.isList (by simpa using Kw.vals_ints r') (by show its.toArray.size+1 < 4096; simp; omega) λh' tk hS hk=>?_
 have hsz:its.toArray.size=ns.length:=by simp; omega
 rw [hsz,first_dd] at hS;exact ⟨.ref s.heap.objs.size,_,I.laid (t':=tk) (o:=.set (λk=>(dd ns).any (· == k)) (dd ns).length) (λb o ho=>hk b o (Heap.lt_size ho) ho) (Nat.le_refl _) hS,rfl,q _ (I.hok.fresh (Nat.le_refl _))⟩
theorem call_lenS:jB X (.builtin "len") (λxs H Q=>∃ p S n,xs=[.ref p]/\H p=some (.set S n)/\Q (.int n) H):=by
 intro pins s σ H xs us Q I r h;obtain ⟨p,S,n,rfl,hp,q⟩:=h;obtain ⟨u,rfl,rx⟩:=Ze r;cases rx
 obtain ⟨o,es,ep,t,ho,hex,hd,_,_,hb,hf,rfl⟩:=(I.hok p _ hp:s.heap.SetOf (intKind X.prog X.w) p S n);have hb':es.size < 4096:=hb;exact call_len_set ho hex hd hf (by omega) ⟨.int _,H,I.tok _,⟨_,rfl⟩,q⟩
end
noncomputable def opD:Option Rat->PyData
 |none=>.none
 |some q=>frd q
theorem JD (o:Option Rat):(opD o).canLay0=true:=by cases o<;>rfl
theorem opD_dep (o:Option Rat):(opD o).depth<=2:=by
 cases o with
 |none=>decide
 |some q=>exact Nat.le_of_ble_eq_true rfl
theorem opD_eqv (a b:Option Rat):PyData.eqv (opD a) (opD b)=decide (a=b):=by
 cases a with
 |none=>cases b with
  |none=>rfl
  |some q=>rfl
 |some p=>cases b with
  |none=>rfl
  |some q=>
   show PyData.eqv (frd p) (frd q)=_;unfold frd;rw [eqv_2];by_cases e:p=q
   ·subst e;rw [decide_eq_true rfl,decide_eq_true rfl,decide_eq_true rfl];rfl
   ·rw [decide_eq_false (λz=>e (Option.some.inj z))]
    by_cases e1:p.num=q.num
    ·by_cases e2:p.den=q.den
     ·exact absurd (Rat.ext e1 e2) e
     ·rw [decide_eq_false (show ¬ ((p.den:Nat):Int)=((q.den:Nat):Int) by omega),Bool.and_false]
    ·rw [decide_eq_false e1,Bool.false_and]
theorem OptB.dp {K:Frag} {H:Hp} {v:V} {o:Option Rat} (h:OptB K H v o):Dp K H v (opD o):=by
 rcases h with ⟨rfl,rfl⟩|⟨q,p,rfl,rfl,g,_⟩
 ·exact .non
 ·exact .tup g (.cons (.int _) (.cons (.int _) .nil))
theorem op_eqOB {X:Cx} {K:Frag} (hK:X.K=K) (hu:X.A.units+100 < cLine):OpR X (compareOp .Eq) (λa b H Q=>∃ o o',OptB K H a o/\OptB K H b o'/\Q (.bl (decide (o=o'))) H):=by
 intro pins s σ H a b v u Q I rx ry h;obtain ⟨o,o',h1,h2,k⟩:=h;refine op_eqD hK hu pins s σ H _ _ v u Q I rx ry ⟨opD o,opD o',h1.dp,h2.dp,JD _,JD _,?_,?_⟩
 ·have:=opD_dep o;have:=opD_dep o';omega
 rw [opD_eqv];exact k
theorem op_inOB {X:Cx} {K:Frag} (hK:X.K=K) (hu:X.A.units+100 < cLine):OpR X (compareOp .In) (λx y H Q=>∃ (t:Addr) (a b:V) (o o1 o2:Option Rat),y=.ref t/\SqT K H t [a,b]/\OptB K H x o/\OptB K H a o1/\OptB K H b o2/\Q (.bl (decide (o=o1) || decide (o=o2))) H):=by
 intro pins s σ H x y v u Q I rx ry h;obtain ⟨t,a,b,o,o1,o2,rfl,ht,h0,h1,h2,k⟩:=h;refine op_inD hK hu pins s σ H _ _ v u Q I rx ry ⟨opD o,[opD o1,opD o2],h0.dp,.inr (.tup ht (.cons h1.dp (.cons h2.dp .nil))),?_,JD _,?_,?_⟩
 ·show (PyData.canLay0 (opD o1) && (PyData.canLay0 (opD o2) && true))=true;rw [JD,JD];rfl
 ·have:=opD_dep o;omega
 ·simp only [List.any_cons,List.any_nil,Bool.or_false,opD_eqv];rw [show decide (o1=o)=decide (o=o1) from decide_eq_decide.mpr eq_comm,show decide (o2=o)=decide (o=o2) from decide_eq_decide.mpr eq_comm];exact k
theorem ZV {f k:Str} {v:V} (h:k≠f):∀ fs:List (Str × V),(putF f v fs).lookup k=fs.lookup k
 |[]=>by
  show (match k == f with|true=>some v|false=>none)=none
  rw [beq_false_of_ne h]
 | (g,x)::r=>by
  unfold putF;by_cases e:g=f
  ·subst e;rw [if_pos rfl,List.lookup_cons,List.lookup_cons,beq_false_of_ne h]
  ·rw [if_neg e,List.lookup_cons,List.lookup_cons,ZV h r]
theorem look_eq {f:Str} {v:V}:∀ fs:List (Str × V),(putF f v fs).lookup f=some v
 |[]=>by
  show (match f == f with|true=>some v|false=>none)=some v
  rw [beq_self_eq_true]
 | (g,x)::r=>by
  unfold putF;by_cases e:g=f
  ·subst e;rw [if_pos rfl,List.lookup_cons,beq_self_eq_true]
  ·rw [if_neg e,List.lookup_cons,look_eq r,beq_false_of_ne (Ne.symm e)]
theorem put_put {f:Str} {v u:V}:∀ fs:List (Str × V),putF f v (putF f u fs)=putF f v fs
 |[]=>by simp [putF]
 | (g,x)::r=>by
  by_cases e:g=f
  ·subst e;simp [putF]
  ·simp [putF,e,put_put r]
theorem Jl {f:Str} {v:V}:∀ fs:List (Str × V),(putF f v fs).length<=fs.length+1
 |[]=>Nat.le_refl _
 | (g,x)::r=>by
  unfold putF;split
  ·simp
  ·have:=Jl (f:=f) (v:=v) r;simp only [List.length_cons];omega
theorem NoM.put {fs:List (Str × V)} (h:NoM fs) {f:Str} {v:V} (hf:f="coming"\/f="due"\/f="now"\/f="gone_through"):NoM (putF f v fs):=by
 have ne:∀ k:Str,k≠"coming"->k≠"due"->k≠"now"->k≠"gone_through"->k≠f:=λk a b c d e=>by
  subst e;rcases hf with z|z|z|z
  ·exact a z
  ·exact b z
  ·exact c z
  ·exact d z
 have g:∀ k:Str,k≠"coming"->k≠"due"->k≠"now"->k≠"gone_through"->fs.lookup k=none->(putF f v fs).lookup k=none:=λk a b c d e=>by rw [ZV (ne k a b c d)]; exact e
 obtain ⟨h1,h2,h3,h4,h5,h6,h7,h8,h9,h10,EQ,h12,h13,ER,h15,h16,h17⟩:=h;constructor<;>exact g _ (by decide) (by decide) (by decide) (by decide) (by assumption)
section
variable {K:Frag} {H H':Hp} {C p:Addr} {R:Rat × Rat} {gs:List Bq} {dx:Addr} {fs:List (Str × V)} {wl g j nw:Addr} {xs:List V} {kvs:List (List Key × V)} {now:Rat} {c:Option Rat} {co:V} {as:List Addr} {f:Str} {v:V}
theorem PlG.put (h:PlG K H C p R gs dx fs wl g xs) (hf:f="coming"\/f="due"\/f="now"\/f="gone_through") (s:Buts as H H') (n:NoT as H) (nw:wl∉as) (ng:g∉as) (e:H' p=some (.ins C dx (putF f v fs))):PlG K H' C p R gs dx (putF f v fs) wl g xs:=by
 have n1:("walls" : Str)≠f:=λz=>by subst z; revert hf; decide
 have n2:("goings" : Str)≠f:=λz=>by subst z; revert hf; decide
 exact ⟨e,by rw [ZV n1]; exact h.fw,by rw [ZV n2]; exact h.fg,h.ws.buts s n nw,s _ _ ng h.hg,yk h.al s n,h.nm.put hf⟩
theorem PlG.buts (h:PlG K H C p R gs dx fs wl g xs) (s:Buts as H H') (n:NoT as H) (np:p∉as) (nw:wl∉as) (ng:g∉as):PlG K H' C p R gs dx fs wl g xs:=⟨s _ _ np h.ob,h.fw,h.fg,h.ws.buts s n nw,s _ _ ng h.hg,yk h.al s n,h.nm⟩
theorem PlJ.buts (h:PlJ K H R gs fs j kvs) (s:Buts as H H') (n:NoT as H) (hj:Rd H' j (.dT kvs)):PlJ K H' R gs fs j kvs:=⟨h.fj,hj,h.ks,ya h.js s n⟩
theorem PlJ.put (h:PlJ K H R gs fs j kvs) (hf:f="coming"\/f="due"\/f="now"\/f="gone_through") (s:Buts as H H') (n:NoT as H) (hj:Rd H' j (.dT kvs)):PlJ K H' R gs (putF f v fs) j kvs:=by
 have n1:("joints" : Str)≠f:=λz=>by subst z; revert hf; decide
 exact ⟨by rw [ZV n1]; exact h.fj,hj,h.ks,ya h.js s n⟩
end
noncomputable def PrH (H:Hp) (v:V) (q:Pr):Prop:=∃ b,v=.ref b/\H b=some (.tup ((keyP q).map kV))
theorem PrH.same {H H':Hp} {v:V} {q:Pr} (h:PrH H v q) (s:Same H H'):PrH H' v q:=by
 obtain ⟨b,e,h⟩:=h;exact ⟨b,e,s _ _ h⟩
theorem z8 {H H':Hp} {vs:List V} {qs:List Pr} (h:Al2 (PrH H) vs qs) (s:Same H H'):Al2 (PrH H') vs qs:=Al2.imp (λ_ _ z=>z.same s) h
theorem PrH.but {H H':Hp} {v:V} {q:Pr} {as:List Addr} (h:PrH H v q) (s:Buts as H H') (n:NoT as H):PrH H' v q:=by
 obtain ⟨b,e,h⟩:=h;exact ⟨b,e,s _ _ (λm=>(n b m).1 _ h) h⟩
theorem y3 {H H':Hp} {vs:List V} {qs:List Pr} {as:List Addr} (h:Al2 (PrH H) vs qs) (s:Buts as H H') (n:NoT as H):Al2 (PrH H') vs qs:=Al2.imp (λ_ _ z=>z.but s n) h
theorem JP {kvs:List (List Key × V)} {ps:List Pr} (h:kvs.map (·.1)=ps.map keyP) {i:Nat} {kv:List Key × V} (hk:kvs[i]?=some kv):∃ q,ps[i]?=some q/\kv.1=keyP q:=by
 have lk:kvs.length=ps.length:=by
  have:=congrArg List.length h;rwa [List.length_map,List.length_map] at this
 have hi:=(List.getElem?_eq_some_iff.mp hk).1;obtain ⟨q,hq⟩:∃ q,ps[i]?=some q:=⟨_,List.getElem?_eq_getElem (by omega)⟩
 refine ⟨q,hq,?_⟩;have z:=congrArg (λl=>l[i]?) h
 simp only [List.getElem?_map,hk,hq,Option.map_some] at z;exact Option.some.inj z
theorem NoT.frz {H:Hp} {as:List Addr} {a:Addr} {o:Obj} {kvs:List (List Key × V)} (h:H a=some (.frz o (.dT kvs))) (r:NoT as H):NoT (a::as) H:=λb hb=>by
 rcases List.mem_cons.mp hb with rfl|hb
 ·exact ⟨λys z=>by (rw [h] at z; cases z),λo' ys z=>by (rw [h] at z; cases z)⟩
 ·exact r b hb
theorem YK {n:Nat} (h:n<=6):(prsP n).length<=200:=by
 have:n=0\/n=1\/n=2\/n=3\/n=4\/n=5\/n=6:=by omega
 rcases this with rfl|rfl|rfl|rfl|rfl|rfl|rfl<;>decide+kernel
theorem lc_dictF {idx:List Nat} {tt:TT} {te:TE} {σ:L2.St} {H:Hp} {Q:VK} {a:Addr} {o:Obj} {kvs:List (List Key × V)} {ps:List Pr} (f:Pr->Bool) (hk:kvs.map (·.1)=ps.map keyP) (hf:H a=some (.frz o (.dT kvs))) (hz:kvs.length<=sizeLine)
  (ht:∀ q b (H1:Hp),q∈ps->Same H H1->H1 b=some (.tup ((keyP q).map kV))->∀ Q':Bool->Hp->Prop,(∀ H2,Same H1 H2->Q' (f q) H2)->tt (stIn (some (.ref b)) idx σ) H1 Q')
  (he:∀ b (H1:Hp),∀ Q':VK,Q' (.ref b) H1->te (stIn (some (.ref b)) idx σ) H1 Q')
  (hd:∀ H1 ds,Same H H1->Al2 (PrH H1) ds (ps.filter f)->∀ q,H1 q=none->Q (.ref q) (upd H1 q (.lst ds))):jw (Itd a o kvs) idx tt te σ Q H:=by
 have lk:kvs.length=ps.length:=by
  have:=congrArg List.length hk;rwa [List.length_map,List.length_map] at this
 refine ⟨λi m ys H'=>m=kvs.length - i/\i<=kvs.length/\Same H H'/\Al2 (PrH H') ys ((ps.take i).filter f),⟨kvs.length,by simp,Nat.zero_le _,Same.refl _,trivial⟩,?_⟩
 rintro i m ys H' ⟨rfl,hi,s1,al⟩;have ly:=Al2.len al;have lf:=List.length_filter_le f (ps.take i);rw [List.length_take] at lf;refine ⟨by omega,?_⟩
 by_cases hlt:i < kvs.length
 ·refine .inr ⟨⟨s1 _ _ hf,hlt⟩,λy H2 yl=>?_⟩
  obtain ⟨e,b,kv,hkv,ex,hb⟩:=yl;subst e ex;obtain ⟨q,hq⟩:∃ q,ps[i]?=some q:=⟨_,List.getElem?_eq_getElem (by omega)⟩
  have ek:kv.1=keyP q:=by
   have z:=congrArg (λl=>l[i]?) hk
   simp only [List.getElem?_map,hkv,hq,Option.map_some] at z;exact Option.some.inj z
  rw [ek] at hb;have tk:(ps.take (i+1)).filter f=(ps.take i).filter f++(if f q=true then [q] else []):=by
   rw [zU hq,List.filter_append];congr 1;show (match f q with|true=>q::[]|false=>[])=_
   cases f q<;>rfl
  refine ht q b _ (List.mem_of_getElem? hq) s1 hb _ λH3 s3=>?_
  cases hp:f q with
  |true=>
   rw [hp] at tk;rw [if_pos rfl];exact he b _ _ ⟨kvs.length - (i+1),by omega,rfl,hlt,s1.trans s3,by rw [tk,if_pos rfl]; exact Al2.snoc (z8 al s3) ⟨b,rfl,s3 _ _ hb⟩⟩
  |false=>
   rw [hp] at tk;rw [if_neg (by decide)]
   exact ⟨kvs.length - (i+1),by omega,rfl,hlt,s1.trans s3,by rw [tk,if_neg (by decide),List.append_nil]; exact z8 al s3⟩
 ·have e:i=kvs.length:=by omega
  subst e;rw [lk,List.take_length] at al;exact .inl ⟨⟨s1 _ _ hf,Nat.le_refl _⟩,hd H' ys s1 al⟩
theorem lc_dictB {idx:List Nat} {te:TE} {σ:L2.St} {H:Hp} {Q:VK} {a:Addr} {o:Obj} {kvs:List (List Key × V)} {ps:List Pr} (f:Pr->Bool) (hk:kvs.map (·.1)=ps.map keyP) (hf:H a=some (.frz o (.dT kvs))) (hz:kvs.length<=sizeLine)
  (he:∀ q b (H1:Hp),q∈ps->Same H H1->H1 b=some (.tup ((keyP q).map kV))->∀ Q':VK,(∀ H2,Same H1 H2->Q' (.bl (f q)) H2)->te (stIn (some (.ref b)) idx σ) H1 Q')
  (hd:∀ H1,Same H H1->∀ q,H1 q=none->Q (.ref q) (upd H1 q (.lst ((ps.map f).map V.bl)))):YW (Itd a o kvs) idx te σ Q H:=by
 have lk:kvs.length=ps.length:=by
  have:=congrArg List.length hk;rwa [List.length_map,List.length_map] at this
 refine ⟨λi m ys H'=>m=kvs.length - i/\i<=kvs.length/\Same H H'/\ys=((ps.take i).map f).map V.bl,⟨kvs.length,by simp,Nat.zero_le _,Same.refl _,rfl⟩,?_⟩
 rintro i m ys H' ⟨rfl,hi,s1,rfl⟩;refine ⟨by rw [List.length_map,List.length_map,List.length_take]; omega,?_⟩
 by_cases hlt:i < kvs.length
 ·refine .inr ⟨⟨s1 _ _ hf,hlt⟩,λy H2 yl=>?_⟩
  obtain ⟨e,b,kv,hkv,ex,hb⟩:=yl;subst e ex;obtain ⟨q,hq,ek⟩:=JP hk hkv;rw [ek] at hb;refine he q b _ (List.mem_of_getElem? hq) s1 hb _ λH3 s3=>⟨kvs.length - (i+1),by omega,rfl,hlt,s1.trans s3,?_⟩
  rw [zU hq,List.map_append,List.map_append];rfl
 ·have e:i=kvs.length:=by omega
  subst e;refine .inl ⟨⟨s1 _ _ hf,Nat.le_refl _⟩,?_⟩;rw [lk,List.take_length];exact hd H' s1
theorem jN {α:Type} {l:List α} {i:Nat} {a:α} (f:α->Bool) (h:l[i]?=some a) (h0:(l.take i).any f=false) (h1:f a=false):(l.take (i+1)).any f=false:=by
 rw [zU h,List.any_append,h0];simp [h1]
theorem j6 {α:Type} {l:List α} {i:Nat} {a:α} (f:α->Bool) (h:l[i]?=some a) (h1:f a=true):l.any f=true:=List.any_eq_true.mpr ⟨a,List.mem_of_getElem? h,h1⟩
theorem thawed {H H1 H2 H3:Hp} {j:Addr} {u v:HO} (hj:H j=some u) (s1:But j H H1) (s2:Same H1 H2) (s3:But j H2 H3) (e:H3 j=some u):Same H H3:=λa o ha=>by
 by_cases z:a=j
 ·subst z;rw [hj] at ha;cases ha
  exact e
 ·exact s3 _ _ z (s2 _ _ (s1 _ _ z ha))
theorem Jj (l:List Int) (k:Int):inV (.int k) (l.map V.int)=decide (k∈l):=by
 induction l with
 |nil=>rfl
 |cons a l ih=>
  show (eqV (.int a) (.int k) || inV (.int k) (l.map V.int))=_;have e:eqV (.int a) (.int k)=decide (k=a):=by
   show decide (a=k)=_;exact decide_eq_decide.mpr eq_comm
  rw [ih,e,<- Bool.decide_or];exact decide_eq_decide.mpr List.mem_cons.symm
theorem YE (l:List Int):(l.map V.int).all Yp=true:=by
 rw [List.all_map];exact List.all_eq_true.mpr λ_ _=>rfl
section
variable {prog:Program} {w:World} {A:Around} {E:Value->Shared->Prop} {s:Shared} {I d S:Addr} {od:Obj} {es:Array DictEntry} {ep:Nat}
noncomputable abbrev KeyAt (es:Array DictEntry):Nat->Value->Prop:=λi v=>∃ e,es[i]?=some e/\v=e.key
theorem walks_raw (hh:A.handled=none) (I d:Addr) (hne:d≠I) (hdd:od.data=.dict es ep) :
  Walks prog w A I [I,d] [I] es.size (KeyAt es) (λi h=>h.IsKeyIter I d i es.size ep/\h.get? d=some od) where
 sub:=λb hb=>by simp at hb; simp [hb]
 frame:=λ_ _ _ st hk=>⟨st.1.at λo e=>hk I (by simp) o e,hk d (by simp) _ st.2⟩
 item:=λi s Q E hi st hQ=>by
  refine next_raw st.1 st.2 hdd hi λh' hit' hs'=>?_
  exact hQ _ h' s.toks ⟨es[i],Array.getElem?_eq_getElem hi,rfl⟩ ⟨hit',hs'.extBut d _ hne st.2⟩ λb o hb e=>hs'.extBut b o (λh=>hb (by simp [h])) e
 done:=λs Q E st hQ=>end_raw hh st.1 st.2 hdd (Nat.le_refl _) λh' he'=>hQ h' s.toks λb o hb e=>he' b o (λh=>hb (by simp [h])) e
 self:=λ_ _ _ _ st hQ=>wpAny_pyIter_keyiter st.1 hQ
theorem hint_raw {Q:Bool->Shared->Prop} (tI:s.TypeIs (.ref d) "dict") (h:Q false s):wpAny (model prog w) A (Builtin.List.listLengthHint (.ref d)) Q E s:=by
 unfold Builtin.List.listLengthHint;refine wpAny_bind (wpAny_specialOf tI F.slot_dict_len.lookup ?_);generalize hid:("dict.__len__" : String)=id0
 wp_delta
 rw [show splitId id0=some ("dict","__len__") from by subst hid; decide+kernel]
 subst hid;refine wpAny_bind (wpAny_isInstance (b:=true) tI (by rw [isSubtype_type]; kernel_rfl) ?_)
 refine wpAny_ite_split (λhab=>absurd hab (by decide)) (λ_=>?_)
 refine wpAny_ite_split (λ_=>?_) (λhab=>absurd (by decide+kernel) hab)
 refine wpAny_bind (wpAny_typeOf tI ?_);exact wpAny_pure h
theorem extend_dct {R:Result->Shared->Prop} {res:Value} {c0:Nat} (hh:A.handled=none) (hd:(d == sysModules)=false) (ho:s.heap.get? d=some od) (hc:od.ExactDict) (hdd:od.data=.dict es ep) (hz:es.size<=sizeLine) (nS:S≠d)
  (kS:s.heap.get? S=some {cls:=.type "list",data:=.seq #[] c0})
  (hR:∀ z acc c,(∀ b o,b≠S->s.heap.get? b=some o->z.heap.get? b=some o)->z.gens=s.gens->z.drawn=s.drawn->z.os=s.os->z.heap.get? S=some {cls:=.type "list",dict:=none,data:=.seq acc c,slots:=#[]}->ItemsOf (KeyAt es) acc es.size->R (.ok (.ret res)) z) :
  wpAny (model prog w) A.in1 (Builtin.List.listExtendWith (.ref S) (.ref d) res) (λfin z=>match fin with|.done f=>R (.ok f) z|.again c=>c.quiet=true/\codeAny (model prog w) A c R z) (λe z=>R (.error e) z) s:=by
 have lS:=Heap.lt_size kS;have ld:=Heap.lt_size ho;have Wk:=(walks_raw (prog:=prog) (w:=w) (A:=A.in1) hh s.heap.objs.size d (Nat.ne_of_lt ld) hdd).toS;have tI:s.TypeIs (.ref d) "dict":=⟨od,ho,hc.1⟩;have d1:Builtin.List.listSameRef (.ref S) (.ref d)=false:=by simp [Builtin.List.listSameRef,nS]
 unfold Builtin.List.listExtendWith;refine wpAny_bind (wpAny_typeOf tI ?_);rw [if_neg (by rw [d1]; decide)]
 refine wpAny_bind (iter_raw hd ho hc hdd ?_);refine wpAny_bind (wpAny_holding ?_);refine hint_raw ⟨od,Heap.get?_push_of_some _ ho,hc.1⟩ ?_;rw [if_pos (by decide+kernel)]
 have ES:=Heap.get?_push_of_some {cls:=.type "dict_keyiterator",data:=.fields #[.ref d,.int 0 0,.int es.size 0,.int ep 0]} kS;refine wpAny_bind (wpAny_rule ?_);refine wpAny_bind ?_;show wpAny _ _ (updateSeq S (·.push .none) >>= λ_=>updateSeq S (·.pop)) _ _ _
 refine wpAny_bind (wpAny_updateSeq ES rfl ?_);have ET:=Heap.get?_update_self (Obj.mapSeq (·.push Value.none)) ES rfl;refine wpAny_updateSeq (hz:=by seq_fits) ET rfl ?_
 have Hi:=Heap.get?_update_self (Obj.mapSeq (·.pop)) ET rfl;have oth:∀ b u,b≠S->(s.heap.push {cls:=.type "dict_keyiterator",data:=.fields #[.ref d,.int 0 0,.int es.size 0,.int ep 0]}).get? b=some u->(((s.heap.push {cls:=.type "dict_keyiterator",data:=.fields #[.ref d,.int 0 0,.int es.size 0,.int ep 0]}).update S (Obj.mapSeq (·.push Value.none))).update S (Obj.mapSeq (·.pop))).get? b=some u:=λb u hb e=>(Heap.get?_update_other _ _ (Ne.symm hb)).trans ((Heap.get?_update_other _ _ (Ne.symm hb)).trans e)
 refine wpAny_pure ⟨plainId_quiet F.plain_extend_loop _,codeAny_extend_loopS Wk hz S (by simp [nS,Nat.ne_of_lt lS]) res es.size 0 _ #[] _ rfl (Nat.zero_le _) ⟨⟨_,oth _ _ (Ne.symm (Nat.ne_of_lt lS)) (Heap.get?_push_size _ rfl),rfl,rfl⟩,oth _ _ (Ne.symm nS) (Heap.get?_push_of_some _ ho)⟩ Hi (ItemsOf.nil _) λz acc c hm hS hacc=>hR z acc c ?_ hm.gens hm.drawn hm.os hS hacc⟩
 intro b o hb e;refine hm.heap b o (λhx=>?_) (oth b o hb (Heap.get?_push_of_some _ e))
 rcases List.mem_cons.mp hx with y|y
 ·exact hb y
 ·exact absurd (Heap.lt_size e) (by rw [List.mem_singleton.mp y]; exact Nat.lt_irrefl _)
theorem init_dct {R:Result->Shared->Prop} (hh:A.handled=none) (hd:(d == sysModules)=false) (ho:s.heap.get? d=some od) (hc:od.ExactDict) (hdd:od.data=.dict es ep) (hz:es.size<=sizeLine) (nS:S≠d) (kS:s.heap.get? S=some {cls:=.type "list",data:=.seq #[]})
  (hR:∀ z acc c,(∀ b o,b≠S->s.heap.get? b=some o->z.heap.get? b=some o)->z.gens=s.gens->z.drawn=s.drawn->z.os=s.os->z.heap.get? S=some {cls:=.type "list",dict:=none,data:=.seq acc c,slots:=#[]}->ItemsOf (KeyAt es) acc es.size->R (.ok (.ret .none)) z) :
  wpAny (model prog w) A.in1 (Builtin.«list.__init__» ⟨[.ref S,.ref d],[]⟩) (λfin z=>match fin with|.done f=>R (.ok f) z|.again c=>c.quiet=true/\codeAny (model prog w) A c R z) (λe z=>R (.error e) z) s:=by
 show wpAny _ _ (do let o <- Builtin.List.listItems (.ref S); Builtin.List.listUpdate (.ref S) (λ_=>#[]); letGo o.toList.reverse; Builtin.List.listExtendWith (.ref S) (.ref d) .none) _ _ s
 refine wpAny_bind ?_;unfold Builtin.List.listItems;refine wpAny_bind (wpAny_seqItems kS rfl (wpAny_pure ?_));show wpAny _ _ (updateSeq S (λ_=>#[]) >>= λ_=>letGo (#[]:Array Value).toList.reverse >>= λ_=>Builtin.List.listExtendWith (.ref S) (.ref d) .none) _ _ s
 refine wpAny_bind (wpAny_updateSeq kS rfl ?_);have k2:=Heap.get?_update_self (Obj.mapSeq (λ_=>(#[]:Array Value))) kS rfl
 have oth:∀ b u,b≠S->s.heap.get? b=some u->(s.heap.update S (Obj.mapSeq (λ_=>(#[]:Array Value)))).get? b=some u:=λb u hb e=>(Heap.get?_update_other _ _ (Ne.symm hb)).trans e
 refine wpAny_bind (wpAny_letGo ?_);exact extend_dct hh hd (oth _ _ (Ne.symm nS) ho) hc hdd hz nS k2 λz acc c hm g1 g2 g3 hS hacc=>hR z acc c (λb u hb e=>hm b u hb (oth b u hb e)) g1 g2 g3 hS hacc
theorem list_dct {Q:Value->Shared->Prop} (hh:A.handled=none) (hd:(d == sysModules)=false) (ho:s.heap.get? d=some od) (hc:od.ExactDict) (hdd:od.data=.dict es ep) (hz:es.size<=sizeLine)
  (hQ:∀ z acc c,(∀ b o,s.heap.get? b=some o->z.heap.get? b=some o)->z.gens=s.gens->z.drawn=s.drawn->z.os=s.os->z.heap.get? s.heap.objs.size=some {cls:=.type "list",dict:=none,data:=.seq acc c,slots:=#[]}->
   ItemsOf (KeyAt es) acc es.size->Q (.ref s.heap.objs.size) z):wpAny (model prog w) A (call (.type "list") [.ref d]) Q E s:=by
 have ld:=Heap.lt_size ho;refine callType_codes (Q₁:=λob z=>ob=.ref s.heap.objs.size/\z={s with heap:=s.heap.push {cls:=.type "list",data:=.seq #[]}}) F.called_list (F.typeCall_list_1 _) F.entry_list_init (code_list_new _ ⟨rfl,rfl⟩) λob z q=>?_
 obtain ⟨rfl,rfl⟩:=q;have kS:(s.heap.push {cls:=.type "list",data:=.seq #[]}).get? s.heap.objs.size=some {cls:=.type "list",data:=.seq #[]}:=Heap.get?_push_size _ rfl;refine ⟨⟨_,kS,rfl⟩,F.args_list_init_2 _ _,init_dct hh hd (Heap.get?_push_of_some _ ho) hc hdd hz (Ne.symm (Nat.ne_of_lt ld)) kS λz acc c hm g1 g2 g3 hS hacc=>⟨rfl,hQ z acc c (λb o e=>hm b o (Nat.ne_of_lt (Heap.lt_size e)) (Heap.get?_push_of_some _ e)) g1 g2 g3 hS hacc⟩⟩
end
section
variable {X:Cx}
theorem call_list_dct (hc:X.calm=true):jB X (.type "list") (λxs H Q=>∃ (a:Addr) (kvs:List (List Key × V)) (ps:List Pr),xs=[.ref a]/\H a=some (.dT kvs)/\kvs.map (·.1)=ps.map keyP/\∀ (l:Addr) (ds:List V),H l=none->Al2 (PrH H) ds ps->Q (.ref l) (upd H l (.lst ds))):=by
 intro pins s σ H xs us Q I r h;obtain ⟨a,kvs,ps,rfl,ha,hk,q⟩:=h;obtain ⟨u,rfl,rx⟩:=Ze r;cases rx
 obtain ⟨hz,hm,ys,rel,o,es,ep,ho,hcc,hd,he,hn⟩:=(show zu X.prog X.w H s.heap a (.dT kvs) from I.hok a _ ha);have len:es.size=kvs.length:=by rw [size_of_entries he,Paired.length rel]
 refine list_dct (I.ok.hd hc) hm ho hcc hd (by omega) λz acc c keep g1 g2 g3 hS hacc=>?_
 obtain ⟨h0,h2⟩:=hacc;have kat:∀ (i:Nat) (q:Pr),ps[i]?=some q->∃ b,acc[i]?=some (.ref b)/\H b=some (.tup ((keyP q).map kV)):=λi q hq=>by
  have hi:i < kvs.length:=by
   have z1:=congrArg List.length hk;rw [List.length_map,List.length_map] at z1;have:=(List.getElem?_eq_some_iff.mp hq).1;omega
  obtain ⟨kv,hkv⟩:∃ kv,kvs[i]?=some kv:=⟨_,List.getElem?_eq_getElem hi⟩;obtain ⟨q',hq',ek⟩:=JP hk hkv;rw [hq] at hq';cases hq'
  obtain ⟨y,hy,hyb⟩:=kt_get rel hkv;rw [ek] at hyb;have hia:i < acc.size:=by omega
  obtain ⟨e,ee,ev⟩:=h2 i acc[i] (Array.getElem?_eq_getElem hia);have ee':es.toList[i]?=some e:=by rw [Array.getElem?_toList]; exact ee
  rw [he,List.getElem?_map,hy] at ee';simp only [Option.map_some,Option.some.injEq] at ee';refine ⟨y.2.1,?_,hyb⟩;rw [Array.getElem?_eq_getElem hia,ev,<- ee'];rfl
 have al:∀ (qs:List Pr) (k:Nat),(∀ i q,qs[i]?=some q->ps[k+i]?=some q)->∃ ds:List V,Al2 (PrH H) ds qs/\Vals ds ((acc.toList.drop k).take qs.length):=λqs=>by
  induction qs with
  |nil=>exact λk _=>⟨[],trivial,.nil⟩
  |cons q qs ih=>
   intro k hq;obtain ⟨b,eP,c9⟩:=kat k q (hq 0 q rfl);obtain ⟨ds,d1,d2⟩:=ih (k+1) λi q' hi=>by
    have z1:=hq (i+1) q' (by simpa using hi)
    rwa [show k+(i+1)=k+1+i by omega] at z1
   refine ⟨.ref b::ds,⟨⟨b,rfl,c9⟩,d1⟩,?_⟩;have m3:acc.toList[k]?=some (.ref b):=by rw [Array.getElem?_toList]; exact eP
   obtain ⟨hl,hv⟩:=List.getElem?_eq_some_iff.mp m3;rw [List.drop_eq_getElem_cons hl,hv,List.length_cons,List.take_succ_cons];exact .cons rfl d2
 obtain ⟨ds,d1,d2⟩:=al ps 0 λi q hi=>by rw [Nat.zero_add]; exact hi
 have lp:ps.length=kvs.length:=by
  have z1:=congrArg List.length hk;rw [List.length_map,List.length_map] at z1;exact z1.symm
 rw [List.drop_zero,List.take_of_length_le (by rw [Array.length_toList]; omega)] at d2
 have ld:ds.length<=sizeLine:=by
  have:=Al2.len d1;omega
 have ez:z={s with heap:=z.heap,toks:=z.toks}:=by
  obtain ⟨h',g',d',tk',os'⟩:=z;cases g1
  cases g2
  cases g3
  rfl
 rw [ez];exact ⟨.ref s.heap.objs.size,_,I.laid (t':=z.toks) (o:=.lst ds) keep (Nat.le_refl _) ⟨ld,acc.toList,c,d2,by rw [hS,Array.toArray_toList]⟩,rfl,q _ ds (I.hok.fresh (Nat.le_refl _)) d1⟩
end
noncomputable def Rt (D B:Nat) (r:Rat):Prop:=∃ n:Int,r=(n:Rat) / (D:Rat)/\n.natAbs < 2 ^ B
section
variable {D B:Nat} {x y:Rat}
theorem Rt.mono {B':Nat} (h:Rt D B x) (l:B<=B'):Rt D B' x:=by
 obtain ⟨n,e,b⟩:=h;have p:2 ^ B<=2 ^ B':=Nat.pow_le_pow_right (by decide) l
 exact ⟨n,e,by omega⟩
theorem Rt.fb (h:Rt D B x) (d1:1<=D) (dB:D < 2 ^ B):FB B x:=by
 obtain ⟨n,e,b⟩:=h;rw [e];exact com_fb d1 dB b
theorem Rt.add (h:Rt D B x) (g:Rt D B y):Rt D (B+1) (x+y):=by
 obtain ⟨n,e,b⟩:=h;obtain ⟨m,f,c⟩:=g;have p:2 ^ (B+1)=2 ^ B * 2:=Nat.pow_succ ..;refine ⟨n+m,?_,by omega⟩
 rw [e,f,Rat.intCast_add,Rat.div_def,Rat.div_def,Rat.div_def];grind
theorem Rt.neg (h:Rt D B x):Rt D B (-x):=by
 obtain ⟨n,e,b⟩:=h;refine ⟨-n,?_,by omega⟩
 rw [e,Rat.intCast_neg,Rat.div_def,Rat.div_def];grind
theorem Rt.sub (h:Rt D B x) (g:Rt D B y):Rt D (B+1) (x - y):=by
 have z:=h.add g.neg;rwa [show x+-y=x - y by grind] at z
theorem Rt.int {i:Int} (d1:1<=D) (dB:D < 2 ^ B) (hi:i.natAbs<=1):Rt D B (i:Rat):=by
 refine ⟨i * (D:Int),?_,?_⟩
 ·have D0:=JQ d1;have c:((((D:Nat):Int)):Rat)=(D:Rat):=rfl;rw [Rat.intCast_mul,c,Rat.div_def];have i1:=Rat.mul_inv_cancel _ D0;grind
 ·rw [Int.natAbs_mul,Int.natAbs_natCast];have:=Nat.mul_le_mul_right D hi;omega
theorem Rt.up (h:Rt D B x) (d1:1<=D) {c:Nat} (c1:1<=c) (c2:c<=2000):Rt (D * c) (B+11) x:=by
 obtain ⟨n,e,b⟩:=h;have p:2 ^ (B+11)=2 ^ B * 2048:=Nat.pow_add ..;refine ⟨n * (c:Int),?_,?_⟩
 ·have D0:=JQ d1;have s0:=JQ c1;have e1:((D * c:Nat):Rat)=(D:Rat) * (c:Rat):=by rw [Rat.natCast_mul]
  have e2:(((c:Nat):Int):Rat)=(c:Rat):=rfl;rw [e,e1,Rat.intCast_mul,e2,Rat.div_def,Rat.div_def,inv_two D0 s0];have i1:=Rat.mul_inv_cancel _ s0;grind
 ·rw [Int.natAbs_mul,Int.natAbs_natCast,p];exact Nat.lt_of_lt_of_le (Nat.mul_lt_mul_of_pos_right b (by omega)) (Nat.mul_le_mul_left _ (by omega))
theorem Rt.mix (h:Rt D B x) (g:Rt D B y) (d1:1<=D) {m u:Nat} (m1:1<=m) (m2:m<=1000) (u1:1<=u) (u2:u<=1000):Rt (D * (m+u)) (B+12) (mixQ x y (m:Int) (u:Int)):=by
 obtain ⟨n,e1,b1⟩:=h;obtain ⟨n',e2,b2⟩:=g;have p:2 ^ (B+12)=2 ^ B * 4096:=Nat.pow_add ..;refine ⟨((m:Int) - u) * n+2 * u * n',?_,?_⟩
 ·rw [y7,e1,e2];have ab:((m+u:Nat):Rat)≠0:=JQ (by omega)
  have D0:=JQ d1;have c1:((D * (m+u):Nat):Rat)=(D:Rat) * ((m:Rat)+(u:Rat)):=by push_cast; rfl
  have c2:((m+u:Nat):Rat)=(m:Rat)+(u:Rat):=by push_cast; rfl
  have c3:(((m:Int)):Rat)=(m:Rat):=rfl;have c4:(((u:Int)):Rat)=(u:Rat):=rfl;rw [c1,Rat.intCast_add,Rat.intCast_mul,Rat.intCast_mul,Rat.intCast_sub,Rat.intCast_mul,c3,c4];rw [c2] at ab;have two:((2:Int):Rat)=2:=rfl;rw [two];rw [Rat.div_def,Rat.div_def,Rat.div_def,Rat.div_def,Rat.div_def,inv_two D0 ab];have i1:=Rat.mul_inv_cancel _ ab;have i2:=Rat.mul_inv_cancel _ D0;grind
 ·have z1:(((m:Int) - u) * n).natAbs<=1000 * n.natAbs:=by
   rw [Int.natAbs_mul];exact Nat.mul_le_mul_right _ (by omega)
  have z2:(2 * (u:Int) * n').natAbs<=2000 * n'.natAbs:=by
   rw [Int.natAbs_mul];exact Nat.mul_le_mul_right _ (by omega)
  have z3:=Int.natAbs_add_le (((m:Int) - u) * n) (2 * u * n');omega
end
noncomputable def RtB (D B:Nat) (b:Bq):Prop:=Rt D B b.x/\Rt D B b.y/\Rt D B b.w/\Rt D B b.h/\Rt D B b.u/\Rt D B b.v
noncomputable def CmP (B:Nat) (R:Rat × Rat) (gs:List Bq):Prop:=∃ D:Nat,1<=D/\D < 2 ^ B/\Rt D B R.1/\Rt D B R.2/\∀ b∈gs,RtB D B b
noncomputable def WtB (gs:List Bq):Prop:=∀ b∈gs,∃ m:Int,b.m=some m/\1<=m/\m<=1000
section
variable {D B:Nat} {R:Rat × Rat} {gs:List Bq} {b:Bq} {d:Nat}
theorem RtB.pl (h:RtB D B b):Rt D B (b.pl d):=by
 unfold Bq.pl;split
 ·exact h.1
 ·exact h.2.1
theorem RtB.sz (h:RtB D B b):Rt D B (b.sz d):=by
 unfold Bq.sz;split
 ·exact h.2.2.1
 ·exact h.2.2.2.1
theorem RtB.sp (h:RtB D B b):Rt D B (b.sp d):=by
 unfold Bq.sp;split
 ·exact h.2.2.2.2.1
 ·exact h.2.2.2.2.2
theorem RtB.far (h:RtB D B b):Rt D (B+1) (b.far d):=h.pl.add h.sz
theorem Jx (d1:1<=D) (dB:D < 2 ^ B) (r1:Rt D B R.1) (r2:Rt D B R.2) (al:∀ b∈gs,RtB D B b) (d:Nat) (i:Int):RtB D B (boxB R gs d i):=by
 have z0:Rt D B (0:Rat):=Rt.int (i:=0) d1 dB (by decide)
 have z1:Rt D B (1:Rat):=Rt.int (i:=1) d1 dB (by decide)
 have z2:Rt D B (-1:Rat):=Rt.int (i:=-1) d1 dB (by decide)
 unfold boxB;split
 ·unfold bxAt;rw [List.getD_eq_getElem?_getD];cases q:gs[i.toNat]? with
  |none=>exact ⟨z0,z0,z1,z1,z0,z0⟩
  |some b=>exact al b (List.mem_of_getElem? q)
 ·unfold yh;split<;>split
  ·exact ⟨z2,z0,z1,r2,z0,z0⟩
  ·exact ⟨r1,z0,z1,r2,z0,z0⟩
  ·exact ⟨z0,z2,r1,z1,z0,z0⟩
  ·exact ⟨z0,r2,r1,z1,z0,z0⟩
theorem CmP.far (h:CmP B R gs) (d:Nat) (i:Int):FB (B+1) ((boxB R gs d i).far d):=by
 obtain ⟨D,d1,dB,r1,r2,al⟩:=h;have p:2 ^ (B+1)=2 ^ B * 2:=Nat.pow_succ ..;exact ((Jx d1 dB r1 r2 al d i).far).fb d1 (by omega)
theorem CmP.jnt (h:CmP B R gs) {q:Pr} {t:Rat} (e:jntP R gs q=some t):FB (B+2) t:=by
 obtain ⟨D,d1,dB,r1,r2,al⟩:=h;unfold jntP at e;split at e
 ·cases e
 ·rename_i c
  have ha:=Jx d1 dB r1 r2 al q.1 q.2.1;have hb:=Jx d1 dB r1 r2 al q.1 q.2.2;generalize boxB R gs q.1 q.2.1=a at *;generalize boxB R gs q.1 q.2.2=b at *;have p1:2 ^ (B+1)=2 ^ B * 2:=Nat.pow_succ ..;have p2:2 ^ (B+2)=2 ^ (B+1) * 2:=Nat.pow_succ ..;obtain ⟨n,en,bn⟩:=(hb.pl (d:=q.1)).mono (Nat.le_succ B) |>.sub (ha.far (d:=q.1));obtain ⟨k,ek,bk⟩:=(ha.sp (d:=q.1)).sub (hb.sp (d:=q.1));injection e with e
  have k0:k≠0:=λz=>by
   rw [z] at ek;have:a.sp q.1 - b.sp q.1=0:=by
    rw [ek];show ((0:Int):Rat) / _=0;rw [Rat.div_def];grind
   exact c (by grind)
  rw [en,ek] at e;have D0:=JQ d1;have kr:(k:Rat)≠0:=q_intne k0;have v:t=Rat.divInt n k:=by
   rw [<- e,q_dv,Rat.div_def,Rat.div_def,Rat.div_def,Rat.div_def];have i1:=Rat.mul_inv_cancel (D:Rat) D0;have i2:=Rat.mul_inv_cancel (k:Rat) kr;have f:(k:Rat) * (D:Rat)⁻¹≠0:=λz=>kr (by grind)
   have i3:=Rat.mul_inv_cancel _ f;grind
  rw [v];exact FB.fit k0 (show n.natAbs < 2 ^ (B+2) by omega) (show k.natAbs < 2 ^ (B+2) by omega)
theorem CmP.mono {B':Nat} (h:CmP B R gs) (l:B<=B'):CmP B' R gs:=by
 obtain ⟨D,d1,dB,r1,r2,al⟩:=h;have p:2 ^ B<=2 ^ B':=Nat.pow_le_pow_right (by decide) l
 exact ⟨D,d1,by omega,r1.mono l,r2.mono l,λb hb=>by
  obtain ⟨h1,h2,h3,h4,h5,h6⟩:=al b hb
  exact ⟨h1.mono l,h2.mono l,h3.mono l,h4.mono l,h5.mono l,h6.mono l⟩⟩
end
section
variable {b:Bq} {d d':Nat} {p s:Rat}
theorem Yr (h:d<=1) (h':d'<=1):(b.with d p s).pl d'=if d'=d then p else b.pl d':=by
 rcases d01 h with rfl|rfl<;>rcases d01 h' with rfl|rfl<;>rfl
theorem jW (h:d<=1) (h':d'<=1):(b.with d p s).sp d'=if d'=d then s else b.sp d':=by
 rcases d01 h with rfl|rfl<;>rcases d01 h' with rfl|rfl<;>rfl
theorem with_sz:(b.with d p s).sz d'=b.sz d':=by
 unfold Bq.with Bq.sz;split<;>split<;>rfl
theorem with_m:(b.with d p s).m=b.m:=by
 unfold Bq.with;split<;>rfl
end
section
variable {R:Rat × Rat} {gs:List Bq} {q r:Pr}
theorem Z9:(prtA R gs q).length=gs.length:=by
 unfold prtA;split
 ·rw [List.length_set]
 ·rfl
theorem yT:(prtP R gs q).length=gs.length:=by
 unfold prtP;split
 ·rw [List.length_set,Z9]
 ·exact Z9
noncomputable def oneP (R:Rat × Rat) (gs:List Bq) (q:Pr):Bq:=Zk (boxB R gs q.1 q.2.1) q.1 (ptd (farG (boxB R gs q.1 q.2.1) q.1) (zm (boxB R gs q.1 q.2.2) q.1))
noncomputable def othP (R:Rat × Rat) (gs:List Bq) (q:Pr):Bq:=Zg (boxB R gs q.1 q.2.2) q.1 (ptd (zm (boxB R gs q.1 q.2.2) q.1) (farG (boxB R gs q.1 q.2.1) q.1))
theorem set_at (l:List Bq) (k i:Nat) (b:Bq) (hk:k < l.length):bxAt (l.set k b) i=if i=k then b else bxAt l i:=by
 unfold bxAt;rw [List.getD_eq_getElem?_getD,List.getD_eq_getElem?_getD,List.getElem?_set];by_cases e:k=i
 ·subst e;rw [if_pos rfl,if_pos hk,if_pos rfl];rfl
 ·rw [if_neg e,if_neg (λz=>e z.symm)]
theorem Yu (h:InP gs.length q) (d:Nat) (i:Int):boxB R (prtP R gs q) d i=if 0<=i/\i=q.2.1 then oneP R gs q else if 0<=i/\i=q.2.2 then othP R gs q else boxB R gs d i:=by
 obtain ⟨_,h1,h2,ne,_⟩:=h;have l1:0<=q.2.1->q.2.1.toNat < gs.length:=λz=>by
  rcases h1 with y|⟨i,hi,y⟩<;>omega
 have l2:0<=q.2.2->q.2.2.toNat < gs.length:=λz=>by
  rcases h2 with y|⟨i,hi,y⟩<;>omega
 by_cases i0:0<=i
 ·have bx:∀ l:List Bq,boxB R l d i=bxAt l i.toNat:=λl=>by unfold boxB; rw [if_pos i0]
  rw [bx,bx];have a1:∀ k:Nat,bxAt (prtA R gs q) k=if 0<=q.2.1/\k=q.2.1.toNat then oneP R gs q else bxAt gs k:=λk=>by
   unfold prtA;by_cases c:0<=q.2.1
   ·rw [if_pos c,set_at _ _ _ _ (l1 c)];by_cases e:k=q.2.1.toNat
    ·rw [if_pos e,if_pos ⟨c,e⟩];rfl
    ·rw [if_neg e,if_neg (λz=>e z.2)]
   ·rw [if_neg c,if_neg (λz=>c z.1)]
  have a2:bxAt (prtP R gs q) i.toNat=if 0<=q.2.2/\i.toNat=q.2.2.toNat then othP R gs q else bxAt (prtA R gs q) i.toNat:=by
   unfold prtP;by_cases c:0<=q.2.2
   ·rw [if_pos c,set_at _ _ _ _ (by rw [Z9]; exact l2 c)]
    by_cases e:i.toNat=q.2.2.toNat
    ·rw [if_pos e,if_pos ⟨c,e⟩];rfl
    ·rw [if_neg e,if_neg (λz=>e z.2)]
   ·rw [if_neg c,if_neg (λz=>c z.1)]
  rw [a2,a1];by_cases e1:i=q.2.1
  ·rw [if_neg (show ¬ (0<=q.2.2/\i.toNat=q.2.2.toNat) by omega),if_pos (show 0<=q.2.1/\i.toNat=q.2.1.toNat by omega),if_pos ⟨i0,e1⟩]
  ·by_cases e2:i=q.2.2
   ·rw [if_pos (show 0<=q.2.2/\i.toNat=q.2.2.toNat by omega),if_neg (λz=>e1 z.2),if_pos ⟨i0,e2⟩]
   ·rw [if_neg (show ¬ (0<=q.2.2/\i.toNat=q.2.2.toNat) by omega),if_neg (show ¬ (0<=q.2.1/\i.toNat=q.2.1.toNat) by omega),if_neg (λz=>e1 z.2),if_neg (λz=>e2 z.2)]
 ·rw [if_neg (λz=>i0 z.1),if_neg (λz=>i0 z.1)]
  unfold boxB;rw [if_neg i0,if_neg i0]
theorem box_other (h:InP gs.length q) {d:Nat} (hd:d<=1) (ne:d≠q.1) (i:Int):(boxB R (prtP R gs q) d i).pl d=(boxB R gs d i).pl d/\(boxB R (prtP R gs q) d i).sz d=(boxB R gs d i).sz d/\(boxB R (prtP R gs q) d i).sp d=(boxB R gs d i).sp d:=by
 have bd:∀ i:Int,0<=i->boxB R gs q.1 i=boxB R gs d i:=λi z=>by
  unfold boxB;rw [if_pos z,if_pos z]
 rw [Yu h];split
 ·rename_i c
  unfold oneP Zk;rw [Yr h.1 hd,with_sz,jW h.1 hd,if_neg ne,if_neg ne,<- c.2,bd i c.1];exact ⟨rfl,rfl,rfl⟩
 ·split
  ·rename_i c
   unfold othP Zg;rw [Yr h.1 hd,with_sz,jW h.1 hd,if_neg ne,if_neg ne,<- c.2,bd i c.1];exact ⟨rfl,rfl,rfl⟩
  ·exact ⟨rfl,rfl,rfl⟩
theorem Jb {R:Rat × Rat} {gs gs':List Bq} {r:Pr} (a:(boxB R gs' r.1 r.2.1).pl r.1=(boxB R gs r.1 r.2.1).pl r.1/\(boxB R gs' r.1 r.2.1).sz r.1=(boxB R gs r.1 r.2.1).sz r.1/\(boxB R gs' r.1 r.2.1).sp r.1=(boxB R gs r.1 r.2.1).sp r.1)
  (b:(boxB R gs' r.1 r.2.2).pl r.1=(boxB R gs r.1 r.2.2).pl r.1/\(boxB R gs' r.1 r.2.2).sz r.1=(boxB R gs r.1 r.2.2).sz r.1/\(boxB R gs' r.1 r.2.2).sp r.1=(boxB R gs r.1 r.2.2).sp r.1):jntP R gs' r=jntP R gs r:=by
 unfold jntP Bq.far;rw [a.1,a.2.1,a.2.2,b.1,b.2.2]
theorem jnt_else (h:InP gs.length q) (hr:r.1<=1) (c:r.1≠q.1\/(¬ (0<=r.2.1/\(r.2.1=q.2.1\/r.2.1=q.2.2))/\¬ (0<=r.2.2/\(r.2.2=q.2.1\/r.2.2=q.2.2)))):jntP R (prtP R gs q) r=jntP R gs r:=by
 rcases c with c|⟨c1,c2⟩
 ·exact Jb (box_other h hr c _) (box_other h hr c _)
 ·have e1:boxB R (prtP R gs q) r.1 r.2.1=boxB R gs r.1 r.2.1:=by
   rw [Yu h,if_neg (λz=>c1 ⟨z.1,.inl z.2⟩),if_neg (λz=>c1 ⟨z.1,.inr z.2⟩)]
  have e2:boxB R (prtP R gs q) r.1 r.2.2=boxB R gs r.1 r.2.2:=by
   rw [Yu h,if_neg (λz=>c2 ⟨z.1,.inl z.2⟩),if_neg (λz=>c2 ⟨z.1,.inr z.2⟩)]
  exact Jb ⟨by rw [e1],by rw [e1],by rw [e1]⟩ ⟨by rw [e2],by rw [e2],by rw [e2]⟩
theorem mem_prt {b:Bq} (h:b∈prtP R gs q):b∈gs\/b=oneP R gs q/\0<=q.2.1\/b=othP R gs q/\0<=q.2.2:=by
 have a1:b∈prtA R gs q->b∈gs\/b=oneP R gs q/\0<=q.2.1\/b=othP R gs q/\0<=q.2.2:=λh=>by
  unfold prtA at h;split at h
  ·rcases List.mem_or_eq_of_mem_set h with z|z
   ·exact .inl z
   ·exact .inr (.inl ⟨z,by assumption⟩)
  ·exact .inl h
 unfold prtP at h;split at h
 ·rcases List.mem_or_eq_of_mem_set h with z|z
  ·exact a1 z
  ·exact .inr (.inr ⟨z,by assumption⟩)
 ·exact a1 h
theorem jP (hw:WtB gs) {d:Nat} {i:Int} (i0:0<=i) (hi:i.toNat < gs.length):∃ m:Int,(boxB R gs d i).m=some m/\1<=m/\m<=1000:=by
 unfold boxB bxAt;rw [if_pos i0,List.getD_eq_getElem?_getD,List.getElem?_eq_getElem hi];exact hw _ (List.getElem_mem hi)
theorem YZ {d:Nat} {i:Int} (i0:¬ 0<=i):(boxB R gs d i).m=none:=by
 unfold boxB;rw [if_neg i0];unfold yh;split<;>split<;>rfl
theorem InP.l1 (h:InP gs.length q) (z:0<=q.2.1):q.2.1.toNat < gs.length:=by
 rcases h.2.1 with y|⟨i,hi,y⟩<;>omega
theorem InP.l2 (h:InP gs.length q) (z:0<=q.2.2):q.2.2.toNat < gs.length:=by
 rcases h.2.2.1 with y|⟨i,hi,y⟩<;>omega
theorem prt_wt (hw:WtB gs) (h:InP gs.length q):WtB (prtP R gs q):=λb hb=>by
 rcases mem_prt hb with z|⟨rfl,z⟩|⟨rfl,z⟩
 ·exact hw b z
 ·unfold oneP Zk;rw [with_m];exact jP hw z (h.l1 z)
 ·unfold othP Zg;rw [with_m];exact jP hw z (h.l2 z)
end
section
variable {D B:Nat} {R:Rat × Rat} {gs:List Bq} {q:Pr}
theorem Jf {b:Bq} {d:Nat} {p s:Rat} (h:RtB D B b) (hp:Rt D B p) (hs:Rt D B s):RtB D B (b.with d p s):=by
 obtain ⟨h1,h2,h3,h4,h5,h6⟩:=h;unfold Bq.with;split
 ·exact ⟨hp,h2,h3,h4,hs,h6⟩
 ·exact ⟨h1,hp,h3,h4,h5,hs⟩
theorem RtB.mono {B':Nat} {b:Bq} (h:RtB D B b) (l:B<=B'):RtB D B' b:=⟨h.1.mono l,h.2.1.mono l,h.2.2.1.mono l,h.2.2.2.1.mono l,h.2.2.2.2.1.mono l,h.2.2.2.2.2.mono l⟩
theorem RtB.up {b:Bq} (h:RtB D B b) (d1:1<=D) {c:Nat} (c1:1<=c) (c2:c<=2000):RtB (D * c) (B+11) b:=⟨h.1.up d1 c1 c2,h.2.1.up d1 c1 c2,h.2.2.1.up d1 c1 c2,h.2.2.2.1.up d1 c1 c2,h.2.2.2.2.1.up d1 c1 c2,h.2.2.2.2.2.up d1 c1 c2⟩
theorem CmP.two (h:CmP B R gs) (hw:WtB gs) (hin:InP gs.length q):∃ D:Nat,1<=D/\D < 2 ^ (B+15)/\Rt D (B+15) R.1/\Rt D (B+15) R.2/\(∀ b∈gs,RtB D (B+15) b)/\(0<=q.2.1->Rt D (B+15) (ptd (farG (boxB R gs q.1 q.2.1) q.1) (zm (boxB R gs q.1 q.2.2) q.1)).1/\RtB D (B+15) (oneP R gs q))/\(0<=q.2.2->RtB D (B+15) (othP R gs q)):=by
 obtain ⟨D,d1,dB,r1,r2,al⟩:=h;have ha:=Jx d1 dB r1 r2 al q.1 q.2.1;have hb:=Jx d1 dB r1 r2 al q.1 q.2.2;have Hj:2 ^ (B+15)=2 ^ B * 32768:=Nat.pow_add ..;have eD:2 ^ (B+11)=2 ^ B * 2048:=Nat.pow_add ..;unfold oneP othP Zk Zg farG zm;by_cases c1:0<=q.2.1
 ·obtain ⟨m,em,m1,m2⟩:=jP (R:=R) (d:=q.1) hw c1 (hin.l1 c1);by_cases c2:0<=q.2.2
  ·obtain ⟨u,eu,u1,u2⟩:=jP (R:=R) (d:=q.1) hw c2 (hin.l2 c2);generalize boxB R gs q.1 q.2.1=a at *;generalize boxB R gs q.1 q.2.2=b at *;obtain ⟨m',rfl⟩:∃ m':Nat,m=(m':Int):=⟨m.toNat,by omega⟩
   obtain ⟨u',rfl⟩:∃ u':Nat,u=(u':Int):=⟨u.toNat,by omega⟩
   have one:Rt (D * (m'+u')) (B+13) (mixQ (a.far q.1) (b.pl q.1) (m':Int) (u':Int)):=(ha.far.mix (hb.pl.mono (Nat.le_succ B)) d1 (by omega) (by omega) (by omega) (by omega))
   have oneS:Rt (D * (m'+u')) (B+12) (mixQ (a.sp q.1) (b.sp q.1) (m':Int) (u':Int)):=ha.sp.mix hb.sp d1 (by omega) (by omega) (by omega) (by omega)
   have oth:Rt (D * (u'+m')) (B+13) (mixQ (b.pl q.1) (a.far q.1) (u':Int) (m':Int)):=((hb.pl.mono (Nat.le_succ B)).mix ha.far d1 (by omega) (by omega) (by omega) (by omega))
   have othS:Rt (D * (u'+m')) (B+12) (mixQ (b.sp q.1) (a.sp q.1) (u':Int) (m':Int)):=hb.sp.mix ha.sp d1 (by omega) (by omega) (by omega) (by omega)
   rw [Nat.add_comm u' m'] at oth othS;have upx:∀ {x:Rat},Rt D B x->Rt (D * (m'+u')) (B+15) x:=λz=>(z.up d1 (by omega) (by omega)).mono (by omega)
   have upb:∀ {b:Bq},RtB D B b->RtB (D * (m'+u')) (B+15) b:=λz=>(z.up d1 (by omega) (by omega)).mono (by omega)
   refine ⟨D * (m'+u'),Nat.mul_pos d1 (by omega),?_,upx r1,upx r2,λb hb=>upb (al b hb),λ_=>?_,λ_=>?_⟩
   ·rw [Hj];exact Nat.lt_of_lt_of_le (Nat.mul_lt_mul_of_pos_right dB (by omega)) (Nat.mul_le_mul_left _ (by omega))
   ·have e1:ptd (a.far q.1,a.sp q.1,a.m) (b.pl q.1,b.sp q.1,b.m)=(mixQ (a.far q.1) (b.pl q.1) (m':Int) (u':Int),mixQ (a.sp q.1) (b.sp q.1) (m':Int) (u':Int)):=by
     unfold ptd;dsimp only;rw [em,eu];rfl
    rw [e1];refine ⟨one.mono (by omega),Jf (upb ha) ?_ (oneS.mono (by omega))⟩
    exact ((one.sub ((ha.sz.up d1 (by omega) (by omega)).mono (by omega))).mono (by omega))
   ·have e1:ptd (b.pl q.1,b.sp q.1,b.m) (a.far q.1,a.sp q.1,a.m)=(mixQ (b.pl q.1) (a.far q.1) (u':Int) (m':Int),mixQ (b.sp q.1) (a.sp q.1) (u':Int) (m':Int)):=by
     unfold ptd;dsimp only;rw [em,eu];rfl
    rw [e1];exact Jf (upb hb) (oth.mono (by omega)) (othS.mono (by omega))
  ·have eu:=YZ (R:=R) (gs:=gs) (d:=q.1) c2;generalize boxB R gs q.1 q.2.1=a at *;generalize boxB R gs q.1 q.2.2=b at *;refine ⟨D,d1,by omega,r1.mono (by omega),r2.mono (by omega),λb hb=>(al b hb).mono (by omega),λ_=>?_,λz=>absurd z c2⟩
   have e1:ptd (a.far q.1,a.sp q.1,a.m) (b.pl q.1,b.sp q.1,b.m)=(b.pl q.1+b.pl q.1 - a.far q.1,-a.sp q.1):=by
    unfold ptd;dsimp only;rw [eu]
   rw [e1];have z1:=(hb.pl (d:=q.1)).add (hb.pl (d:=q.1));have z2:=z1.sub (ha.far (d:=q.1));refine ⟨z2.mono (by omega),Jf (ha.mono (by omega)) ?_ (ha.sp.neg.mono (by omega))⟩
   exact (z2.sub (ha.sz.mono (by omega))).mono (by omega)
 ·have c2:0<=q.2.2:=hin.2.2.2.2.resolve_left c1;obtain ⟨u,eu,u1,u2⟩:=jP (R:=R) (d:=q.1) hw c2 (hin.l2 c2);have em:=YZ (R:=R) (gs:=gs) (d:=q.1) c1;generalize boxB R gs q.1 q.2.1=a at *;generalize boxB R gs q.1 q.2.2=b at *;refine ⟨D,d1,by omega,r1.mono (by omega),r2.mono (by omega),λb hb=>(al b hb).mono (by omega),λz=>absurd z c1,λ_=>?_⟩
  have e1:ptd (b.pl q.1,b.sp q.1,b.m) (a.far q.1,a.sp q.1,a.m)=(a.far q.1+a.far q.1 - b.pl q.1,-b.sp q.1):=by
   unfold ptd;dsimp only;rw [em]
  rw [e1];have z1:=(ha.far (d:=q.1)).add (ha.far (d:=q.1));have z2:=z1.sub ((hb.pl (d:=q.1)).mono (B':=B+1+1) (by omega))
  exact Jf (hb.mono (by omega)) (z2.mono (by omega)) (hb.sp.neg.mono (by omega))
theorem CmP.part (h:CmP B R gs) (hw:WtB gs) (hin:InP gs.length q):CmP (B+15) R (prtP R gs q):=by
 obtain ⟨D,d1,dB,r1,r2,al,h1,h2⟩:=h.two hw hin;refine ⟨D,d1,dB,r1,r2,λb hb=>?_⟩
 rcases mem_prt hb with z|⟨rfl,z⟩|⟨rfl,z⟩
 ·exact al b z
 ·exact (h1 z).2
 ·exact h2 z
end
theorem putK_at {κ:Type} [DecidableEq κ] {k:κ} {v:V}:∀ {kvs:List (κ × V)} {i:Nat} {w:V},(kvs.map (·.1)).Nodup->kvs[i]?=some (k,w)->putK kvs k v=kvs.set i (k,v):=by
 intro kvs i w nd hi;have hm:(kvs.any λkv=>decide (kv.1=k))=true:=List.any_eq_true.mpr ⟨(k,w),List.mem_of_getElem? hi,decide_eq_true rfl⟩
 unfold putK;rw [if_pos hm];refine List.ext_getElem? λn=>?_
 rw [List.getElem?_map,List.getElem?_set];by_cases e:i=n
 ·subst e;have hl:=(List.getElem?_eq_some_iff.mp hi).1;rw [hi,if_pos rfl,if_pos hl];show some (if k=k then _ else _)=_
  rw [if_pos rfl]
 ·rw [if_neg e];cases q:kvs[n]? with
  |none=>rfl
  |some kv=>
   show some (if kv.1=k then (kv.1,v) else kv)=some kv
   rw [if_neg];intro z;obtain ⟨hl,hv⟩:=List.getElem?_eq_some_iff.mp hi;obtain ⟨hl',hv'⟩:=List.getElem?_eq_some_iff.mp q;have:=(List.nodup_iff_pairwise_ne.mp nd);have z1:(kvs.map (·.1))[i]'(by simpa using hl)=k:=by simp [hv]
   have z2:(kvs.map (·.1))[n]'(by simpa using hl')=k:=by simp [hv',z]
   rcases Nat.lt_or_gt_of_ne e with l|l
   ·exact (List.pairwise_iff_getElem.mp this i n (by simpa using hl) (by simpa using hl') l) (z1.trans z2.symm)
   ·exact (List.pairwise_iff_getElem.mp this n i (by simpa using hl') (by simpa using hl) l) (z2.trans z1.symm)
theorem JI {n:Nat} (h:n<=6):(prsP n).Nodup:=by
 have:n=0\/n=1\/n=2\/n=3\/n=4\/n=5\/n=6:=by omega
 rcases this with rfl|rfl|rfl|rfl|rfl|rfl|rfl<;>decide+kernel
theorem zAK {n:Nat} (h:n<=6):((prsP n).map keyP).Nodup:=by
 rw [List.nodup_iff_pairwise_ne,List.pairwise_map];exact (List.nodup_iff_pairwise_ne.mp (JI h)).imp λz e=>z (keyP_inj e)
section
variable {B:Nat} {R:Rat × Rat} {gs:List Bq} {q:Pr}
theorem CmP.fbs (h:CmP B R gs) (hw:WtB gs) (hin:InP gs.length q) (hB:B+15<=1990) :
  (0<=q.2.1->FB 1990 (ptd (farG (boxB R gs q.1 q.2.1) q.1) (zm (boxB R gs q.1 q.2.2) q.1)).1/\FB 1990 (ptd (farG (boxB R gs q.1 q.2.1) q.1) (zm (boxB R gs q.1 q.2.2) q.1)).2/\FB 1990 ((ptd (farG (boxB R gs q.1 q.2.1) q.1) (zm (boxB R gs q.1 q.2.2) q.1)).1 - (boxB R gs q.1 q.2.1).sz q.1))/\
  (0<=q.2.2->FB 1990 (ptd (zm (boxB R gs q.1 q.2.2) q.1) (farG (boxB R gs q.1 q.2.1) q.1)).1/\FB 1990 (ptd (zm (boxB R gs q.1 q.2.2) q.1) (farG (boxB R gs q.1 q.2.1) q.1)).2):=by
 obtain ⟨D,d1,dB,_,_,_,h1,h2⟩:=h.two hw hin;constructor
 ·intro z;obtain ⟨a,b⟩:=h1 z;have b1:=b.pl (d:=q.1);have b2:=b.sp (d:=q.1);unfold oneP Zk at b1 b2;rw [Yr hin.1 hin.1,if_pos rfl] at b1;rw [jW hin.1 hin.1,if_pos rfl] at b2;exact ⟨(a.fb d1 dB).mono hB,(b2.fb d1 dB).mono hB,(b1.fb d1 dB).mono hB⟩
 ·intro z;have b:=h2 z;have b1:=b.pl (d:=q.1);have b2:=b.sp (d:=q.1);unfold othP Zg at b1 b2;rw [Yr hin.1 hin.1,if_pos rfl] at b1;rw [jW hin.1 hin.1,if_pos rfl] at b2;exact ⟨(b1.fb d1 dB).mono hB,(b2.fb d1 dB).mono hB⟩
end
noncomputable def mixL {α β:Type} (f f':α->β) (l:List α) (i:Nat):List β:=(l.take i).map f'++(l.drop i).map f
theorem mix_zero {α β:Type} (f f':α->β) (l:List α):mixL f f' l 0=l.map f:=by
 unfold mixL;simp
theorem mix_all {α β:Type} (f f':α->β) (l:List α):mixL f f' l l.length=l.map f':=by
 unfold mixL;simp
theorem mix_set {α β:Type} {f f':α->β} {l:List α} {i:Nat} {q:α} (h:l[i]?=some q):(mixL f f' l i).set i (f' q)=mixL f f' l (i+1):=by
 obtain ⟨hl,hv⟩:=List.getElem?_eq_some_iff.mp h;unfold mixL;have lt:((l.take i).map f').length=i:=by simp; omega
 rw [List.set_append_right _ _ (by omega),lt,Nat.sub_self,List.drop_eq_getElem_cons hl,List.map_cons,List.set_cons_zero,zU h,List.map_append,List.append_assoc]
 rfl
theorem mix_same {α β:Type} {f f':α->β} {l:List α} {i:Nat} {q:α} (h:l[i]?=some q) (e:f' q=f q):mixL f f' l i=mixL f f' l (i+1):=by
 obtain ⟨hl,hv⟩:=List.getElem?_eq_some_iff.mp h;unfold mixL;rw [List.drop_eq_getElem_cons hl,List.map_cons,zU h,List.map_append,List.append_assoc,hv];show _++f q::_=_++(f' q::[]++_);rw [e];rfl
section
variable {K:Frag} {te:TE} {tt:TT} {σ:L2.St} {H:Hp} {Q:VK} {idx:List Nat}
theorem lc_tupG {a:Addr} {xs:List V} (p:V->Bool) (hl:SqT K H a xs) (hz:xs.length<=sizeLine) (ht:∀ x∈xs,∀ Q':Bool->Hp->Prop,Q' (p x) H->tt (stIn (some x) idx σ) H Q') (he:∀ x∈xs,∀ Q':VK,Q' x H->te (stIn (some x) idx σ) H Q')
  (hd:∀ q,H q=none->Q (.ref q) (upd H q (.lst (xs.filter p)))):jw (Itt K a) idx tt te σ Q H:=by
 refine ⟨λi m ys H'=>m=xs.length - i/\i<=xs.length/\H'=H/\ys=(xs.take i).filter p,⟨xs.length,by simp,Nat.zero_le _,rfl,by simp⟩,?_⟩
 rintro i m ys H' ⟨rfl,hi,rfl,rfl⟩;refine ⟨Nat.le_trans (List.length_filter_le _ _) (by rw [List.length_take]; omega),?_⟩
 by_cases hlt:i < xs.length
 ·refine .inr ⟨⟨xs,xs[i],hl,by simp [hlt]⟩,λy H' yl=>?_⟩
  obtain ⟨e,yl⟩:=yl;subst e;have hy:=yl xs hl;have hm:y∈xs:=List.mem_of_getElem? hy;have tk:=take_succ_filter p xs i y hy;refine ht y hm _ ?_;cases hp:p y with
  |true=>
   rw [hp] at tk;rw [if_pos rfl];exact he y hm _ ⟨xs.length - (i+1),by omega,rfl,hlt,rfl,by rw [tk]; rfl⟩
  |false=>
   rw [hp] at tk;rw [if_neg (by decide)]
   exact ⟨xs.length - (i+1),by omega,rfl,hlt,rfl,by rw [tk]; simp⟩
 ·have e:i=xs.length:=by omega
  subst e;refine .inl ⟨⟨xs,hl,Nat.le_refl _⟩,?_⟩;rw [List.take_length];exact hd
end
noncomputable def plF (wl g nw:Addr) (n:Int) (j:Addr) (co:V) (du:Addr):List (Str × V):=[("walls",.ref wl),("goings",.ref g),("now",.ref nw),("gone_through",.int n),("joints",.ref j),("coming",co),("due",.ref du)]
theorem plF_nm {wl g nw:Addr} {n:Int} {j:Addr} {co:V} {du:Addr}:NoM (plF wl g nw n j co du):=⟨rfl,rfl,rfl,rfl,rfl,rfl,rfl,rfl,rfl,rfl,rfl,rfl,rfl,rfl,rfl,rfl,rfl⟩
noncomputable def Zq (K:Frag) (H:Hp) (C p:Addr) (R:Rat × Rat) (gs:List Bq) (now:Rat) (n:Nat) (wl g j:Addr):Prop:=∃ (dx nw:Addr) (co:V) (du:Addr) (xs:List V) (kvs:List (List Key × V)) (ds:List V),
 PlG K H C p R gs dx (plF wl g nw (n:Int) j co du) wl g xs/\PlJ K H R gs (plF wl g nw (n:Int) j co du) j kvs/\H j=some (.dT kvs)/\wl≠j/\FQ K H nw now/\FB 2000 now/\OptB K H co (comP R gs now)/\H du=some (.lst ds)/\Al2 (PrH H) ds (dueP R gs now)/\du≠g
section
variable {K:Frag} {H H':Hp} {C p:Addr} {R:Rat × Rat} {gs:List Bq} {now:Rat} {n:Nat} {wl g j:Addr}
theorem Zq.same (h:Zq K H C p R gs now n wl g j) (s:Same H H'):Zq K H' C p R gs now n wl g j:=by
 obtain ⟨dx,nw,co,du,xs,kvs,ds,h1,h2,h3,h4,h5,h6,h7,h8,h9,h10⟩:=h;exact ⟨dx,nw,co,du,xs,kvs,ds,h1.same s,h2.same s,s _ _ h3,h4,Kw.Same.tup s h5,h6,h7.same s,s _ _ h8,z8 h9 s,h10⟩
theorem due_few (l6:gs.length<=6):(dueP R gs now).length<=200:=Nat.le_trans (List.length_filter_le _ _) (YK l6)
theorem z7:∀ q∈dueP R gs now,InP gs.length q:=λq hq=>zh.mp (List.mem_filter.mp hq).1
theorem yY:∀ (l:List Pr) (gs:List Bq),(l.foldl (prtP R) gs).length=gs.length
 |[],_=>rfl
 |q::l,gs=>by rw [List.foldl_cons,yY l,yT]
theorem Yf:∀ (l:List Pr) {gs:List Bq} {B:Nat},CmP B R gs->WtB gs->(∀ q∈l,InP gs.length q)->CmP (B+15 * l.length) R (l.foldl (prtP R) gs)/\WtB (l.foldl (prtP R) gs)
 |[],_,_,h,w,_=>⟨h,w⟩
 |q::l,gs,B,h,w,hl=>by
  have hq:=hl q (List.mem_cons_self ..);have z:=Yf l (h.part w hq) (prt_wt w hq) λr hr=>by rw [yT]; exact hl r (List.mem_cons_of_mem _ hr)
  rw [List.foldl_cons,List.length_cons,show B+15 * (l.length+1)=B+15+15 * l.length by omega]
  exact z
theorem Jp (l6:gs.length<=6) (h:twoP (dueP R gs now)=false):(dueP R gs now).length<=6:=by
 have nd:(numP (dueP R gs now)).Nodup:=by
  unfold twoP at h;have:=of_decide_eq_false h;exact Decidable.not_not.mp this
 have lt:∀ i∈numP (dueP R gs now),0<=i/\i < 6:=λi hi=>by
  unfold numP at hi;obtain ⟨h1,h2⟩:=List.mem_filter.mp hi;have i0:=of_decide_eq_true h2;refine ⟨i0,?_⟩;rcases List.mem_append.mp h1 with z|z
  ·obtain ⟨q,hq,rfl⟩:=List.mem_map.mp z;have:=(z7 q hq).l1 (gs:=gs) i0;omega
  ·obtain ⟨q,hq,rfl⟩:=List.mem_map.mp z;have:=(z7 q hq).l2 (gs:=gs) i0;omega
 have l1:(numP (dueP R gs now)).length<=6:=by
  have z:(numP (dueP R gs now)) ⊆ (List.range 6).map λ(i:Nat)=>(i:Int):=λi hi=>by
   have:=lt i hi;exact List.mem_map.mpr ⟨i.toNat,List.mem_range.mpr (by omega),by omega⟩
  have:=List.Nodup.length_le_of_subset nd z;simpa using this
 have l2:∀ l:List Pr,(∀ q∈l,InP gs.length q)->l.length<=(numP l).length:=λl=>by
  induction l with
  |nil=>exact λ_=>Nat.le_refl _
  |cons q l ih=>
   intro hl;have z:=ih λr hr=>hl r (List.mem_cons_of_mem _ hr)
   have hq:=(hl q (List.mem_cons_self ..)).2.2.2.2;unfold numP at z ⊢;simp only [List.map_cons,List.filter_append,List.length_append,List.filter_cons] at z ⊢;rcases hq with hq|hq
   ·rw [if_pos (decide_eq_true hq)];split<;>simp only [List.length_cons]<;>omega
   ·rw [if_pos (decide_eq_true hq)];split<;>simp only [List.length_cons]<;>omega
 have:=l2 (dueP R gs now) z7;omega
end
noncomputable def tPairs:List (TE × TE)->L2.St->Hp->(List (V × V)->Hp->Prop)->Prop
 |[],_,H,Q=>Q [] H
 | (tk,tv)::r,σ,H,Q=>tk σ H λk H1=>tv σ H1 λv H2=>tPairs r σ H2 λl H3=>Q ((k,v)::l) H3
noncomputable def KeysT (H:Hp):List (V × V)->List (List Key × V)->Prop
 |[],[]=>True
 | (k,v)::r,e::es=>(∃ b,k=.ref b/\H b=some (.tup (e.1.map kV)))/\v=e.2/\KeysT H r es
 |_,_=>False
noncomputable def JE (l:List (List Key × V)):List (List Key × V)->List (List Key × V):=λes=>es.foldl (λa e=>putK a e.1 e.2) l
noncomputable def tDictT (ts:List (TE × TE)):TE:=λσ H Q=>∀ d,H d=none->tPairs ts σ (upd H d (.dT [])) λl H1=>H1 d=some (.dT [])/\∃ es:List (List Key × V),KeysT H1 l es/\es.length<=100/\Q (.ref d) (upd H1 d (.dT (JE [] es)))
inductive PPs (X:Cx):List (Option Expr)->List Expr->List (TE × TE)->Prop
 |nil:PPs X [] [] []
 |cons {k v:Expr} {ks:List (Option Expr)} {vs:List Expr} {tk tv:TE} {ts:List (TE × TE)}:PE X k tk->PE X v tv->PPs X ks vs ts->PPs X (some k::ks) (v::vs) ((tk,tv)::ts)
noncomputable def RelP:List (V × V)->List (Value × Value)->Prop
 |[],[]=>True
 | (k,v)::r,(k',v')::r'=>RelV k k'/\RelV v v'/\RelP r r'
 |_,_=>False
section
variable {X:Cx} {pos:Pos}
theorem pairs_walk {ks:List (Option Expr)} {vs:List Expr} {ts:List (TE × TE)} (h:PPs X ks vs ts):∀ (pins:List (Addr × Obj)) (s:Shared) (σ:L2.St) (H:Hp) (Q:List (V × V)->Hp->Prop) (I:Inv X pins σ H s),tPairs ts σ H Q->
  wpAny (model X.prog X.w) X.A (evalPairs (pairTrees ks vs X.env pos)) (λus s'=>∃ l H',Inv X pins σ H' s'/\RelP l us/\Q l H') X.xe s:=by
 induction h with
 |nil=>exact λpins s σ H Q I q=>wpAny_pure ⟨[],H,I,trivial,q⟩
 |@cons k v ks vs tk tv ts hk hv hr ih=>
  intro pins s σ H Q I q;show wpAny _ _ (evalPairs ((eval k X.env,do let x <- eval v X.env; standAt pos; pure x)::pairTrees ks vs X.env pos)) _ _ s
  unfold evalPairs;refine wpAny_bind (thn (hk pins s σ H _ I q) λu s1 zz=>?_)
  obtain ⟨y,H1,I1,r1,q1⟩:=zz;refine wpAny_bind (wpAny_holding ?_);refine wpAny_bind (thn (hv pins s1 σ H1 _ I1 q1) λu2 s2 zz=>?_)
  obtain ⟨y2,H2,I2,r2,q2⟩:=zz;refine wpAny_bind (wpAny_standAt (wpAny_pure ?_));refine wpAny_bind (wpAny_holding ?_);refine wpAny_mono (ih pins s2 σ H2 _ I2 q2) (λus s3 ⟨l,H3,I3,r3,q3⟩=>?_) (λ_ _ e=>e)
  exact wpAny_pure ⟨(y,y2)::l,H3,I3,⟨r1,r2,r3⟩,q3⟩
theorem Jz {H H':Hp} (k:∀ c ys,H c=some (.tup ys)->H' c=some (.tup ys)):∀ (l:List (V × V)) (es:List (List Key × V)),KeysT H l es->KeysT H' l es
 |[],[],_=>trivial
 | (_,_)::r,_::es,⟨⟨b,e,hb⟩,ev,t⟩=>⟨⟨b,e,k b _ hb⟩,ev,Jz k r es t⟩
 |[],_::_,h=>h.elim
 |_::_,[],h=>h.elim
theorem pps_len {ks:List (Option Expr)} {vs:List Expr} {ts:List (TE × TE)} (h:PPs X ks vs ts):ks.length=vs.length:=by
 induction h with
 |nil=>rfl
 |cons _ _ _ ih=>exact congrArg (·+1) ih
theorem some_all {ks:List (Option Expr)} {vs:List Expr} {ts:List (TE × TE)} (h:PPs X ks vs ts):ks.all (·.isSome)=true:=by
 induction h with
 |nil=>rfl
 |cons _ _ _ ih=>exact ih
theorem store_all (hu:X.A.units+1 < cLine) {d:Addr} {pins:List (Addr × Obj)} {σ:L2.St} {Q:Hp->Prop}:∀ (l:List (V × V)) (us:List (Value × Value)) (es kvs:List (List Key × V)) (s:Shared) (H:Hp) (I:Inv X pins σ H s),RelP l us->KeysT H l es->H d=some (.dT kvs)->kvs.length+es.length<=1000->Q (upd H d (.dT (JE kvs es)))->
  wpAny (model X.prog X.w) X.A (storeAll d us) (λ_ s'=>∃ H',Inv X pins σ H' s'/\Q H') X.xe s
 |[],[],[],kvs,s,H,I,_,_,hd,_,q=>by
  refine wpAny_pure ⟨_,I,?_⟩;have e:upd H d (.dT (JE kvs []))=H:=by
   funext b
   by_cases z:b=d
   ·subst z;rw [zw,hd];rfl
   ·rw [za z]
  rw [<- e];exact q
 | (k,v)::l,(k',v')::us,e::es,kvs,s,H,I,r,ky,hd,hz,q=>by
  obtain ⟨rk,rv,rr⟩:=r;obtain ⟨⟨b,rfl,hb⟩,ev,kr⟩:=ky;subst ev;cases (show k'=Value.ref b from rk)
  show wpAny _ _ (forIn ((Value.ref b,v')::us) PUnit.unit λ(x:Value × Value) (_:PUnit)=>(do dictSet d x.1 x.2; pure (ForInStep.yield PUnit.unit):Sem (ForInStep PUnit))) _ _ s
  rw [List.forIn_cons];obtain ⟨z,hsm,xs,rel,dd⟩:=dt_of I.hok hd;have hx:xs.length<=sizeLine:=by rw [<- Paired.length rel]; exact z
  have hz':kvs.length+(es.length+1)<=1000:=hz;have hl:(putK kvs e.1 e.2).length<=sizeLine:=by have:=j0 kvs e.1 e.2; rw [sizeLine_eq]; omega
  refine wpAny_bind (wpAny_bind (wpAny_dictSet_heap (hsz:=hx) (knd:=tupleKind (yF X.prog X.w)) (Nat.lt_of_succ_lt hu) (key_of I.hok hb) dd λh' dd' hs=>wpAny_pure ?_))
  obtain ⟨o,eo,ep,hq,h2,h3,h4,_,h5⟩:=dd';have I2:Inv X pins σ (upd H d (.dT (putK kvs e.1 e.2))) {s with heap:=h',toks:=s.toks+(tupleKind (yF X.prog X.w)).draws e.1}:=by
   refine Jg I (by rw [hd]; exact True.intro) hs ⟨o,hq⟩ ⟨hl,hsm,_,(rel.put e.1 hb rv).keeps λc ys ec=>?_,o,eo,ep,hq,h2,h3,h4,h5⟩
   rw [za (zy ec hd (λz=>nomatch z))]
   exact ec
  have hlen:(putK kvs e.1 e.2).length<=kvs.length+1:=j0 kvs e.1 e.2;exact store_all hu l us es (putK kvs e.1 e.2) _ _ I2 rr (Jz (λc ys ec=>by rw [za (zy ec hd (λz=>nomatch z))]; exact ec) l es kr) zw (by omega) (by rw [upd_upd]; exact q)
 |[],_::_,_,_,_,_,_,r,_,_,_,_=>r.elim
 |_::_,[],_,_,_,_,_,r,_,_,_,_=>r.elim
 |[],[],_::_,_,_,_,_,_,ky,_,_,_=>ky.elim
 |_::_,_::_,[],_,_,_,_,_,ky,_,_,_=>ky.elim
theorem pe_dictT (hu:X.A.units+1 < cLine) {ks:List (Option Expr)} {vs:List Expr} {ts:List (TE × TE)} (h:PPs X ks vs ts) (h0:ks≠[]) (hn:ks.length<=15):PE X (.Dict ks vs pos) (tDictT ts):=by
 intro pins s σ H Q I q;refine wpAny_Dict_any (some_all h) (pps_len h) h0 hn ?_;have I1:=I.laid (a:=s.heap.objs.size) (o:=.dT []) (t':=s.toks) (λ_ _ q=>Heap.get?_push_of_some _ q) (Nat.le_refl _) (dt_empty s.heap I.big)
 refine wpAny_mono (pairs_walk h pins _ σ _ _ I1 (q s.heap.objs.size (I.hok.fresh (Nat.le_refl _)))) (λus s1 ⟨l,H1,I2,rp,hd,es,ky,hl,q1⟩=>?_) (λ_ _ e=>e)
 exact wpAny_mono (store_all hu l us es [] s1 H1 I2 rp ky hd (by simp only [List.length_nil]; omega) q1) (λ_ s2 ⟨H2,I3,q2⟩=>⟨.ref s.heap.objs.size,H2,I3,rfl,q2⟩) (λ_ _ e=>e)
end
section
variable {K:Frag} {H H':Hp} {p:Addr}
theorem yG (h:SqT K H p [.int 0,.int 1]):FQ K H p 0:=h
theorem fq_one (h:SqT K H p [.int 1,.int 1]):FQ K H p 1:=h
theorem fq_mone (h:SqT K H p [.int (-1),.int 1]):FQ K H p (-1):=h
theorem yB:FB 1990 (0:Rat):=(FB.ofInt (n:=64) (i:=0) (Bd.small (by decide) (by decide)) (by decide)).mono (by decide)
theorem fb_one:FB 1990 (1:Rat):=(FB.ofInt (n:=64) (i:=1) (Bd.small (by decide) (by decide)) (by decide)).mono (by decide)
theorem fb_mone:FB 1990 (-1:Rat):=(FB.ofInt (n:=64) (i:=-1) (Bd.small (by decide) (by decide)) (by decide)).mono (by decide)
noncomputable def WlT (K:Frag) (H:Hp) (z:V) (b:Bq):Prop:=∃ p a0 a1 a2 a3 a4 a5,z=.ref p/\SqT K H p [.ref a0,.ref a1,.ref a2,.ref a3,.ref a4,.ref a5,.non]/\(FQ K H a0 b.x/\FQ K H a1 b.y/\FQ K H a2 b.w/\FQ K H a3 b.h/\FQ K H a4 b.u/\FQ K H a5 b.v)
theorem wls_new {R:Rat × Rat} {cO:Hp} {d:Addr} {w0 w1 w2 w3:V} (fx:FB 1990 R.1) (fy:FB 1990 R.2) (n:H d=none) (s:Same H cO) (hd:cO d=some (.dT [])) (h0:WlT K cO w0 (yh R 0 (-1))) (h1:WlT K cO w1 (yh R 0 (-2))) (h2:WlT K cO w2 (yh R 1 (-1))) (h3:WlT K cO w3 (yh R 1 (-2))) :
  Same H (upd cO d (.dT (JE [] [(keyW 0 (-1),w0),(keyW 0 (-2),w1),(keyW 1 (-1),w2),(keyW 1 (-2),w3)])))/\Wls K (upd cO d (.dT (JE [] [(keyW 0 (-1),w0),(keyW 0 (-2),w1),(keyW 1 (-1),w2),(keyW 1 (-2),w3)]))) d R:=by
 have e:JE [] [(keyW 0 (-1),w0),(keyW 0 (-2),w1),(keyW 1 (-1),w2),(keyW 1 (-2),w3)]=[(keyW 0 (-1),w0),(keyW 0 (-2),w1),(keyW 1 (-1),w2),(keyW 1 (-2),w3)]:=by with_unfolding_all rfl
 rw [e];have bs:Buts [d] cO (upd cO d (.dT [(keyW 0 (-1),w0),(keyW 0 (-2),w1),(keyW 1 (-1),w2),(keyW 1 (-2),w3)])):=λa o na ha=>by
  have ne:a≠d:=λz=>na (by rw [z]; exact List.mem_cons_self ..)
  rw [za ne];exact ha
 have nt:NoT [d] cO:=NoT.dct hd NoT.nil;have g:∀ {z:V} {b:Bq},WlT K cO z b->b.m=none->(FB 1990 b.x/\FB 1990 b.y/\FB 1990 b.w/\FB 1990 b.h/\FB 1990 b.u/\FB 1990 b.v)->BqH K 1990 cO z b:=λ⟨p,a0,a1,a2,a3,a4,a5,ez,h,f⟩ em db=>⟨p,a0,a1,a2,a3,a4,a5,ez,by rw [em]; exact h,f,db,by rw [em]; exact λm z=>nomatch z⟩
 refine ⟨λa o ha=>?_,w0,w1,w2,w3,zw,(g h0 rfl ⟨fb_mone,yB,fb_one,fy,yB,yB⟩).buts bs nt,(g h1 rfl ⟨fx,yB,fb_one,fy,yB,yB⟩).buts bs nt,(g h2 rfl ⟨yB,fb_mone,fx,fb_one,yB,yB⟩).buts bs nt,(g h3 rfl ⟨yB,fy,fx,fb_one,yB,yB⟩).buts bs nt⟩
 rw [za (λz=>by rw [z,n] at ha; cases ha)]
 exact s _ _ ha
end
noncomputable def onesN (n:Nat):List Int:=(-1:Int)::(List.range n).map λ(i:Nat)=>(i:Int)
noncomputable def JR (n:Nat):List Int:=(-2:Int)::(List.range n).map λ(i:Nat)=>(i:Int)
noncomputable def okP (one o:Int):Bool:=decide (one≠o) && (decide (0<=one) || decide (0<=o))
theorem prs1_eq {n d:Nat} {one:Int}:prs1 n d one=((JR n).filter (okP one)).map λo=>(d,one,o):=rfl
theorem prsD_eq {n d:Nat}:prsD n d=(onesN n).flatMap (prs1 n d):=rfl
theorem ones_at {n i:Nat} (h:i<=n):(onesN n)[i]?=some (-1+(i:Int)):=by
 unfold onesN;cases i with
 |zero=>rfl
 |succ k=>
  rw [List.getElem?_cons_succ,List.getElem?_map,List.getElem?_range (by omega)]
  show some ((k:Nat):Int)=_;congr 1;omega
theorem oth_len {n:Nat}:(JR n).length=n+1:=by simp [JR]
theorem ones_len {n:Nat}:(onesN n).length=n+1:=by simp [onesN]
theorem oth_vs {n:Nat}:[V.int (-2)]++((List.range n).map λ(i:Nat)=>V.int (i:Int))=(JR n).map V.int:=by
 simp [JR]
theorem putK_snoc {kvs:List (List Key × V)} {ps:List Pr} {i:Nat} {q:Pr} {v:V} (nd:(ps.map keyP).Nodup) (hk:kvs.map (·.1)=(ps.take i).map keyP) (hq:ps[i]?=some q):putK kvs (keyP q) v=kvs++[(keyP q,v)]:=by
 unfold putK;refine if_neg λh=>?_
 obtain ⟨kv,hm,e⟩:=List.any_eq_true.mp h;have e:=of_decide_eq_true e;have hin:keyP q∈(ps.take i).map keyP:=by
  rw [<- hk,<- e];exact List.mem_map_of_mem hm
 have EU:((ps.take (i+1)).map keyP).Nodup:=nd.sublist ((List.take_sublist _ _).map _);rw [zU hq,List.map_append] at EU;exact (List.nodup_append.mp EU).2.2 _ hin _ (List.mem_singleton.mpr rfl) rfl
noncomputable def InR (R:Rat × Rat) (b:Bq):Prop:=0 < b.w/\0 < b.h/\0<=b.x/\0<=b.y/\b.far 0<=R.1/\b.far 1<=R.2
structure GdP (R:Rat × Rat) (gs:List Bq):Prop where
 r1:0 < R.1
 r2:0 < R.2
 l1:1<=gs.length
 l6:gs.length<=6
 wt:WtB gs
 al:∀ b∈gs,InR R b
 ap:∀ i j,i < j->j < gs.length->(hicB (bxAt gs i) (bxAt gs j) 0 && hicB (bxAt gs i) (bxAt gs j) 1)=false
theorem jR {gs:List Bq} {i:Nat} {b:Bq} (h:gs[i]?=some b):bxAt gs i=b:=by
 unfold bxAt;rw [List.getD_eq_getElem?_getD,h];rfl
theorem Y0 {x y:Rat} (h:x<=y):¬ y < x:=Rat.not_lt.mpr h
section
variable {s:Rat} {b c:Bq} {d:Nat}
end
section
variable {s:Rat} {R:Rat × Rat} {gs bs:List Bq} {d:Nat}
theorem mul_le_q {x y:Rat} (hs:0 < s):s * x<=s * y↔x<=y:=by
 constructor
 ·intro h;exact Rat.not_lt.mp λz=>by
   have:=Rat.mul_lt_mul_of_pos_left z hs;exact Rat.not_lt.mpr h this
 ·exact λh=>Rat.mul_le_mul_of_nonneg_left h (Rat.le_of_lt hs)
theorem mul_lt_q {x y:Rat} (hs:0 < s):s * x < s * y↔x < y:=by
 rw [<- Rat.not_le,<- Rat.not_le,mul_le_q hs]
end
theorem YQ {s x:Rat} (hs:0 < s) (hx:0 < x):0 < s * x:=by
 have:=(mul_lt_q (x:=0) (y:=x) hs).mpr hx;rwa [Rat.mul_zero] at this
theorem ZN {s x:Rat} (hs:0 < s) (hx:0<=x):0<=s * x:=by
 have:=(mul_le_q (x:=0) (y:=x) hs).mpr hx;rwa [Rat.mul_zero] at this
section
variable {K:Frag} {H H':Hp} {v:V} {r:List Int × Int} {z:Scn} {as:List Addr}
end
section
variable {a d b:Rat} {c:Int}
end
theorem wd_lay {wd:String} (h:wd="still"\/wd="more"\/wd="crowd"):(PyData.str wd).canLay0=true:=by
 rcases h with rfl|rfl|rfl<;>decide+kernel
section
variable {u:Rat}
end
section
variable {K:Frag} {tt:TT} {te:TE} {idx:List Nat} {σ:L2.St} {Q:VK} {H:Hp}
theorem lc_listF {a:Addr} {xs:List V} (Pv:Nat->List V->Hp->Prop) (h0:Pv 0 [] H) (hz:xs.length<=sizeLine) (hy:∀ i ys H,Pv i ys H->ys.length<=i) (hl:∀ i ys H,Pv i ys H->SqL K H a xs)
  (hs:∀ i x ys H (Qn:List V->Hp->Prop),xs[i]?=some x->Pv i ys H->(∀ zs H2,Pv (i+1) zs H2->Qn zs H2)->tt (stIn (some x) idx σ) H λb H3=>if b=true then te (stIn (some x) idx σ) H3 λv H2=>Qn (ys++[v]) H2 else Qn ys H3) (hd:∀ ys H,Pv xs.length ys H->∀ p,H p=none->Q (.ref p) (upd H p (.lst ys))) :
  jw (Itl K a) idx tt te σ Q H:=by
 refine ⟨λi m ys H=>m=xs.length - i/\i<=xs.length/\Pv i ys H,⟨xs.length,by simp,Nat.zero_le _,h0⟩,?_⟩
 rintro i m ys H ⟨rfl,hi,p⟩;have q:=hl i ys H p;refine ⟨by have:=hy i ys H p; omega,?_⟩
 by_cases hlt:i < xs.length
 ·refine .inr ⟨⟨xs,xs[i],q,by simp [hlt]⟩,λy H' yl=>?_⟩
  obtain ⟨e,yl⟩:=yl;subst e;exact hs i y ys _ (λzs H2=>∃ m',m' < xs.length - i/\m'=xs.length - (i+1)/\i+1<=xs.length/\Pv (i+1) zs H2) (yl xs q) p λzs H2 z=>⟨xs.length - (i+1),by omega,rfl,hlt,z⟩
 ·have e:i=xs.length:=by omega
  subst e;exact .inl ⟨⟨xs,q,Nat.le_refl _⟩,hd ys H p⟩
end
noncomputable def wtD:Option Int->PyData
 |none=>.none
 |some m=>.int m
noncomputable def bqD (b:Bq):PyData:=.tuple [frD b.x,frD b.y,frD b.w,frD b.h,frD b.u,frD b.v,wtD b.m]
theorem wtD_dp {K:Frag} {H:Hp} (o:Option Int):Dp K H (wV o) (wtD o):=by
 cases o with
 |none=>exact .non
 |some m=>exact .int _
theorem BqH.dp {K:Frag} {H:Hp} {N:Nat} {z:V} {b:Bq} (h:BqH K N H z b):Dp K H z (bqD b):=by
 obtain ⟨p,a0,a1,a2,a3,a4,a5,rfl,h1,⟨g0,g1,g2,g3,g4,g5⟩,d⟩:=h;exact .tup h1 (.cons (FQ.dp g0) (.cons (FQ.dp g1) (.cons (FQ.dp g2) (.cons (FQ.dp g3) (.cons (FQ.dp g4) (.cons (FQ.dp g5) (.cons (wtD_dp _) .nil)))))))
theorem bqs_dp {K:Frag} {H:Hp} {N:Nat}:∀ {xs:List V} {bs:List Bq},Al2 (BqH K N H) xs bs->Dps K H xs (bs.map bqD)
 |[],[],_=>.nil
 |_::_,_::_,z=>.cons z.1.dp (bqs_dp z.2)
 |[],_::_,z=>z.elim
 |_::_,[],z=>z.elim
theorem bq_lay (b:Bq):PyData.canLay0 (bqD b)=true:=by
 unfold bqD;cases b.m<;>rfl
theorem bqs_lay:∀ bs:List Bq,PyData.canLayAll0 (bs.map bqD)=true
 |[]=>rfl
 |m::ms=>by
  show (PyData.canLay0 (bqD m) && PyData.canLayAll0 (ms.map bqD))=true;rw [bqs_lay ms,bq_lay m];rfl
theorem bq_deep (b:Bq):PyData.depth (bqD b)=2:=by
 unfold bqD;cases b.m<;>rfl
theorem bqs_deep:∀ bs:List Bq,PyData.depthAll (bs.map bqD)<=2
 |[]=>Nat.zero_le _
 |m::ms=>by
  show max (PyData.depth (bqD m)) (PyData.depthAll (ms.map bqD))<=2;have e:=bq_deep m;have:=bqs_deep ms;omega
noncomputable def wdS (d:Nat):String:=if d=0 then "across" else "along"
noncomputable def mpD (m:Rat × Pr):PyData:=.tuple [frD m.1,.str (Str.ofString (wdS m.2.1)),.int m.2.2.1,.int m.2.2.2]
theorem wdS_lay (d:Nat):PyData.canLay0 (.str (Str.ofString (wdS d)))=true:=by
 unfold wdS;split<;>decide+kernel
theorem mps_lay:∀ ms:List (Rat × Pr),PyData.canLayAll0 (ms.map mpD)=true
 |[]=>rfl
 |m::ms=>by
  show ((PyData.canLay0 (frD m.1) && (PyData.canLay0 (.str (Str.ofString (wdS m.2.1))) && true)) && PyData.canLayAll0 (ms.map mpD))=true;rw [mps_lay ms,wdS_lay];rfl
theorem mps_deep:∀ ms:List (Rat × Pr),PyData.depthAll (ms.map mpD)<=2
 |[]=>Nat.zero_le _
 |m::ms=>by
  show max (PyData.depth (mpD m)) (PyData.depthAll (ms.map mpD))<=2;have e:PyData.depth (mpD m)=2:=rfl;have:=mps_deep ms;omega
noncomputable def tlpD (wd:String) (ms:List (Rat × Pr)) (bs:List Bq) (last:Rat):PyData:=.tuple [.str wd,.list (ms.map mpD),.list (bs.map bqD),frD last]
theorem tlp_ok {wd:String} (hw:wd="still"\/wd="more"\/wd="crowd") (ms:List (Rat × Pr)) (bs:List Bq) (last:Rat):(tlpD wd ms bs last).canLay0=true/\Nat.ble (tlpD wd ms bs last).depth 60=true:=by
 constructor
 ·show (PyData.canLay0 (.str wd) && (PyData.canLayAll0 (ms.map mpD) && (PyData.canLayAll0 (bs.map bqD) && (PyData.canLay0 (frD last) && true))))=true;rw [mps_lay,bqs_lay,wd_lay hw];rfl
 ·refine Nat.ble_eq_true_of_le ?_;have h1:=mps_deep ms;have h2:=bqs_deep bs;have e:(tlpD wd ms bs last).depth=max 0 (max (PyData.depthAll (ms.map mpD)+1) (max (PyData.depthAll (bs.map bqD)+1) (max 1 0)))+1:=rfl;omega
theorem at_nought (b:Bq):atB 0 b=b:=by
 unfold atB;cases b
 simp [Rat.add_zero]
theorem ats_nought (bs:List Bq):bs.map (atB 0)=bs:=by
 rw [show atB 0=id from funext at_nought,List.map_id]
theorem bqs_but {K:Frag} {H H':Hp} {N:Nat} {c:Addr} {ys vs:List V} {bs:List Bq} (h:Al2 (BqH K N H) vs bs) (s:But c H H') (hc:H c=some (.lst ys)):Al2 (BqH K N H') vs bs:=yk h (Buts.one s (List.mem_singleton.mpr rfl):Buts [c] H H') (NoT.lst hc NoT.nil)
theorem rt42 {n b:Int} (hb:b=1\/b=2\/b=3\/b=7) (h1:-1000<=n) (h2:n<=1000):Rt 42 20 (Rat.divInt n b):=by
 have p:(2:Nat) ^ 20=1048576:=by decide
 rcases hb with rfl|rfl|rfl|rfl
 ·refine ⟨n * 42,?_,by omega⟩
  rw [Rat.divInt_eq_div,Rat.intCast_mul];show (n:Rat) / 1=(n:Rat) * 42 / 42;grind
 ·refine ⟨n * 21,?_,by omega⟩
  rw [Rat.divInt_eq_div,Rat.intCast_mul];show (n:Rat) / 2=(n:Rat) * 21 / 42;grind
 ·refine ⟨n * 14,?_,by omega⟩
  rw [Rat.divInt_eq_div,Rat.intCast_mul];show (n:Rat) / 3=(n:Rat) * 14 / 42;grind
 ·refine ⟨n * 6,?_,by omega⟩
  rw [Rat.divInt_eq_div,Rat.intCast_mul];show (n:Rat) / 7=(n:Rat) * 6 / 42;grind
theorem rt42i {n:Int} (h1:-1000<=n) (h2:n<=1000):Rt 42 20 (n:Rat):=by
 have z:=rt42 (n:=n) (b:=1) (.inl rfl) h1 h2;rwa [Rat.divInt_eq_div,show (n:Rat) / ((1:Int):Rat)=(n:Rat) from by show (n:Rat) / 1=(n:Rat); grind] at z
theorem q_divnn {a b:Int} (ha:0<=a) (hb:0 < b):(0:Rat)<=Rat.divInt a b:=by
 rcases Int.lt_or_eq_of_le ha with h|h
 ·exact Rat.le_of_lt (Yt h hb)
 ·rw [<- h,Rat.zero_divInt];exact Rat.le_refl
theorem Rt.f42 {x:Rat} (h:Rt 42 20 x):FB 1990 x:=(h.fb (by decide) (by decide)).mono (by decide)
noncomputable def RmQ (R:Rat × Rat):Prop:=4<=R.1/\4<=R.2/\Rt 42 20 R.1/\Rt 42 20 R.2
noncomputable def App (gs:List Bq):Prop:=∀ i j,i < j->j < gs.length->(hicB (bxAt gs i) (bxAt gs j) 0 && hicB (bxAt gs i) (bxAt gs j) 1)=false
noncomputable def BxsQ (R:Rat × Rat) (gs:List Bq):Prop:=gs.length<=6/\(∀ g∈gs,InR R g/\RtB 42 20 g/\∃ m:Int,g.m=some m/\1<=m/\m<=1000)/\App gs
theorem ZI (a b:Bq) (d:Nat):hicB a b d=hicB b a d:=by
 unfold hicB;rw [Bool.and_comm]
theorem bx_left {gs hs:List Bq} {i:Nat} (h:i < gs.length):bxAt (gs++hs) i=bxAt gs i:=by
 rw [jR (b:=gs[i]) (by rw [List.getElem?_append_left h,List.getElem?_eq_getElem h]),jR (gs:=gs) (b:=gs[i]) (List.getElem?_eq_getElem h)]
theorem bx_last {gs:List Bq} {b:Bq}:bxAt (gs++[b]) gs.length=b:=jR (by rw [List.getElem?_append_right (Nat.le_refl _)]; simp)
theorem app_snoc {gs:List Bq} {b:Bq} (h:App gs) (g:∀ c∈gs,(!(hicB b c 0 && hicB b c 1))=true):App (gs++[b]):=by
 intro i j ij jl;rw [List.length_append] at jl;simp only [List.length_cons,List.length_nil] at jl;rcases Nat.lt_or_ge j gs.length with c|c
 ·rw [bx_left (by omega),bx_left c]
  exact h i j ij c
 ·have e:j=gs.length:=by omega
  subst e;rw [bx_left ij,bx_last,ZI,ZI (bxAt gs i) b 1];have z:=g (bxAt gs i) (by rw [jR (List.getElem?_eq_getElem ij)]; exact List.getElem_mem ij)
  rw [Bool.not_eq_true'] at z;exact z
theorem bxs_snoc {R:Rat × Rat} {gs:List Bq} {b:Bq} (h:BxsQ R gs) (l:gs.length < 6) (i:InR R b) (r:RtB 42 20 b) (m:∃ m:Int,b.m=some m/\1<=m/\m<=1000) (g:∀ c∈gs,(!(hicB b c 0 && hicB b c 1))=true):BxsQ R (gs++[b]):=by
 refine ⟨by rw [List.length_append]; simp only [List.length_cons,List.length_nil]; omega,λc hc=>?_,app_snoc h.2.2 g⟩
 rcases List.mem_append.mp hc with z|z
 ·exact h.2.1 c z
 ·rw [List.mem_singleton.mp z];exact ⟨i,r,m⟩
theorem BxsQ.gd {R:Rat × Rat} {gs:List Bq} (h:BxsQ R gs) (r:RmQ R) (l:1<=gs.length):GdP R gs:=by
 refine ⟨?_,?_,l,h.1,λb hb=>(h.2.1 b hb).2.2,λb hb=>(h.2.1 b hb).1,h.2.2⟩
 ·have:=r.1; grind
 ·have:=r.2.1; grind
theorem BxsQ.cm {R:Rat × Rat} {gs:List Bq} (h:BxsQ R gs) (r:RmQ R):CmP 20 R gs:=⟨42,by decide,by decide,r.2.2.1,r.2.2.2,λb hb=>(h.2.1 b hb).2.1⟩
theorem bxs_nil {R:Rat × Rat}:BxsQ R []:=⟨by decide,λ_ h=>(nomatch h),λi j _ h=>absurd h (by simp)⟩
noncomputable def bx0:Bq:=⟨((1:Int):Rat),((1:Int):Rat),((1:Int):Rat),Rat.divInt 1 2,((1:Int):Rat),((2:Int):Rat),some 3⟩
theorem bxs_one {R:Rat × Rat} (r:RmQ R):BxsQ R [bx0]:=by
 refine bxs_snoc (gs:=[]) bxs_nil (by decide) ?_ ⟨rt42i (by decide) (by decide),rt42i (by decide) (by decide),rt42i (by decide) (by decide),rt42 (n:=1) (b:=2) (by decide) (by decide) (by decide),rt42i (by decide) (by decide),rt42i (by decide) (by decide)⟩ ⟨3,rfl,by decide,by decide⟩ (λc h=>(nomatch h))
 refine ⟨by decide,Yt (by decide) (by decide),by decide,by decide,?_,?_⟩
 ·show (1:Rat)+1<=R.1;have:=r.1; grind
 ·show (1:Rat)+Rat.divInt 1 2<=R.2;have:=r.2.1;have e:Rat.divInt 1 2<=1:=by decide
  grind
theorem rm_int {a b:Int} (h1:6<=a) (h2:a<=12) (h3:4<=b) (h4:b<=10):RmQ ((a:Rat),(b:Rat)):=
 ⟨by show ((4:Int):Rat)<=(a:Rat); exact Rat.intCast_le_intCast.mpr (by omega),by show ((4:Int):Rat)<=(b:Rat); exact Rat.intCast_le_intCast.mpr (by omega),rt42i (by omega) (by omega),rt42i (by omega) (by omega)⟩
theorem le_div7 {a:Int} (h:28<=a):(4:Rat)<=Rat.divInt a 7:=by
 rw [Rat.divInt_eq_div];have z:((28:Int):Rat)<=(a:Rat):=Rat.intCast_le_intCast.mpr h;have e:((28:Int):Rat)=28:=rfl;have e7:((7:Int):Rat)=7:=rfl;rw [e] at z;rw [e7];grind
theorem rm_sev {a b:Int} (h1:30<=a) (h2:a<=100) (h3:30<=b) (h4:b<=100):RmQ (Rat.divInt a 7,Rat.divInt b 7):=
 ⟨le_div7 (by omega),le_div7 (by omega),rt42 (n:=a) (b:=7) (by decide) (by omega) (by omega),rt42 (n:=b) (b:=7) (by decide) (by omega) (by omega)⟩
section
variable {R:Rat × Rat} {gs:List Bq} {now t:Rat}
theorem step_le {c:Option Rat} {p:Pr} {T:Rat} (h:c=some T):∃ T',yc R gs now c p=some T'/\T'<=T:=by
 subst h;unfold yc;split
 ·rename_i e
  rw [Bool.and_eq_true] at e;obtain ⟨e1,_⟩:=e;cases j:jntP R gs p with
  |none=>rw [j] at e1; cases e1
  |some s=>
   rw [j] at e1;unfold Zj at e1;dsimp only at e1;split at e1
   ·cases e1
   ·exact ⟨s,rfl,Rat.le_of_lt (of_decide_eq_true e1)⟩
 ·exact ⟨T,rfl,Rat.le_refl⟩
theorem fold_le:∀ (l:List Pr) {c:Option Rat} {T:Rat},c=some T->∃ T',l.foldl (yc R gs now) c=some T'/\T'<=T
 |[],c,T,h=>⟨T,h,Rat.le_refl⟩
 |p::l,c,T,h=>by
  obtain ⟨T1,e1,l1⟩:=step_le (R:=R) (gs:=gs) (now:=now) (p:=p) h;obtain ⟨T2,e2,l2⟩:=fold_le l e1;exact ⟨T2,e2,Rat.le_trans l2 l1⟩
theorem step_at {c:Option Rat} {p:Pr} {s:Rat} (j:jntP R gs p=some s) (n:now<=s) (m:(metP R gs s p || corP R gs p)=true):∃ T,yc R gs now c p=some T/\T<=s:=by
 have ns:¬ s < now:=Rat.not_lt.mpr n;unfold yc;rw [j];show ∃ T,(if (Zj now c (some s) && (metP R gs s p || corP R gs p))=true then some s else c)=some T/\T<=s
 rw [m,Bool.and_true];cases c with
 |none=>
  have e:Zj now none (some s)=true:=by
   unfold Zj;dsimp only;rw [if_neg ns]
  rw [e];exact ⟨s,rfl,Rat.le_refl⟩
 |some r=>
  have e:Zj now (some r) (some s)=decide (s < r):=by
   unfold Zj;dsimp only;rw [if_neg ns]
  rw [e];by_cases c:s < r
  ·rw [decide_eq_true c];exact ⟨s,rfl,Rat.le_refl⟩
  ·rw [decide_eq_false c];exact ⟨r,rfl,Rat.not_lt.mp c⟩
theorem J9 {p:Pr} {s:Rat} (hp:InP gs.length p) (j:jntP R gs p=some s) (n:now<=s) (m:(metP R gs s p || corP R gs p)=true):∃ T,comP R gs now=some T/\T<=s:=by
 unfold comP;obtain ⟨a,b,e⟩:=List.append_of_mem (zh.mpr hp);rw [e,List.foldl_append,List.foldl_cons];obtain ⟨T1,e1,l1⟩:=step_at (c:=a.foldl (yc R gs now) none) j n m;obtain ⟨T2,e2,l2⟩:=fold_le b e1;exact ⟨T2,e2,Rat.le_trans l2 l1⟩
noncomputable def ComG (R:Rat × Rat) (gs:List Bq) (now T:Rat):Prop:=now<=T/\∃ p,InP gs.length p/\jntP R gs p=some T/\(metP R gs T p || corP R gs p)=true
theorem fold_good:∀ (l:List Pr) {c:Option Rat},(∀ p∈l,InP gs.length p)->(∀ T,c=some T->ComG R gs now T)->∀ T,l.foldl (yc R gs now) c=some T->ComG R gs now T
 |[],_,_,h=>h
 |p::l,c,hl,h=>by
  rw [List.foldl_cons];refine fold_good l (λq hq=>hl q (List.mem_cons_of_mem _ hq)) λT e=>?_
  unfold yc at e;split at e
  ·rename_i y
   rw [Bool.and_eq_true] at y;obtain ⟨y1,y2⟩:=y;rw [e] at y1 y2;unfold Zj at y1;dsimp only at y1;split at y1
   ·cases y1
   ·rename_i z
    exact ⟨Rat.not_lt.mp z,p,hl p (List.mem_cons_self ..),e,y2⟩
  ·exact h T e
theorem Z8 {T:Rat} (h:comP R gs now=some T):ComG R gs now T:=fold_good (prsP gs.length) (c:=none) (λp hp=>zh.mp hp) (λT e=>(nomatch e)) T h
theorem due_ne {T:Rat} (h:comP R gs now=some T) (c:crwP R gs now=false):dueP R gs now≠[]:=by
 obtain ⟨_,p,hp,j,m⟩:=Z8 h;rw [Bool.or_eq_true] at m;have cm:cmgP R gs (comP R gs now) p=true:=by
  unfold cmgP;rw [h,j];simp
 intro e;rcases m with m|m
 ·have z:p∈dueP R gs now:=List.mem_filter.mpr ⟨zh.mpr hp,by rw [cm,h]; exact m⟩
  rw [e] at z;cases z
 ·unfold crwP at c;rw [Bool.or_eq_false_iff,Bool.or_eq_false_iff,Bool.or_eq_false_iff] at c;have y:cloP R gs (comP R gs now)=true:=List.any_eq_true.mpr ⟨p,zh.mpr hp,by rw [cm,m]; rfl⟩
  rw [y] at c;cases c.2.2.2
end
theorem Jc (b:Bq) (t:Rat) (d:Nat):(atB t b).pl d=b.pl d+b.sp d * t:=by
 unfold atB Bq.pl Bq.sp;split<;>rfl
theorem at_sz (b:Bq) (t:Rat) (d:Nat):(atB t b).sz d=b.sz d:=rfl
theorem Yb (b:Bq) (t:Rat) (d:Nat):(atB t b).far d=b.far d+b.sp d * t:=by
 unfold Bq.far;rw [Jc,at_sz];grind
theorem Zw {k x y:Rat} (hk:0 < k) (h:0<=k * (y - x)):x<=y:=by
 rcases (Rat.le_total (a:=x) (b:=y)) with z|z
 ·exact z
 ·rcases Classical.em (x=y) with e|e
  ·rw [e]; exact Rat.le_refl
  ·have lt:y < x:=Rat.lt_of_le_of_ne z (Ne.symm e);have:=YQ hk (show 0 < x - y by grind)
   grind
theorem Zy {k x y:Rat} (hk:0 < k) (h:0 < k * (y - x)):x < y:=by
 rcases (Rat.le_total (a:=y) (b:=x)) with z|z
 ·have:=ZN hk (show 0<=x - y by grind)
  grind
 ·rcases Classical.em (x=y) with e|e
  ·subst e; grind
  ·exact Rat.lt_of_le_of_ne z e
theorem hic_half {pa fa va pb fb vb now t:Rat} (lt:now<=t) (h1:pa < fa) (h2:pb < fb) (k1:pa+va * t < fb+vb * t) (k2:pb+vb * t < fa+va * t) (c:fb+vb * now<=pa+va * now) :
  ∃ s,now<=s/\s < t/\¬ vb<=va/\s=(pa - fb) / (vb - va)/\∀ r,s < r->r<=t->pa+va * r < fb+vb * r/\pb+vb * r < fa+va * r:=by
 have v0:¬ vb<=va:=λz=>by
  have:=Rat.mul_nonneg (show 0<=va - vb by grind) (show 0<=t - now by grind)
  grind
 have v1:0 < vb - va:=by grind
 have e:(vb - va) * ((pa - fb) / (vb - va))=pa - fb:=by
  have:vb - va≠0:=by grind
  grind
 generalize hs:(pa - fb) / (vb - va)=s at e;refine ⟨s,Zw v1 (by grind),Zy v1 (by grind),v0,rfl,λr hr ht=>⟨?_,?_⟩⟩
 ·have:=YQ v1 (show 0 < r - s by grind)
  grind
 ·have:=ZN v1 (show 0<=t - r by grind)
  grind
theorem hic_full {pa fa va pb fb vb now t:Rat} (k1:pa+va * t < fb+vb * t) (k2:pb+vb * t < fa+va * t) (c1:pa+va * now < fb+vb * now) (c2:pb+vb * now < fa+va * now) (r:Rat) (h1:now<=r) (h2:r<=t) :
  pa+va * r < fb+vb * r/\pb+vb * r < fa+va * r:=by
 rcases (Rat.le_total (a:=va) (b:=vb)) with z|z
 ·have e1:=Rat.mul_nonneg (show 0<=vb - va by grind) (show 0<=t - r by grind)
  have e2:=Rat.mul_nonneg (show 0<=vb - va by grind) (show 0<=r - now by grind)
  constructor<;>grind
 ·have e1:=Rat.mul_nonneg (show 0<=va - vb by grind) (show 0<=t - r by grind)
  have e2:=Rat.mul_nonneg (show 0<=va - vb by grind) (show 0<=r - now by grind)
  constructor<;>grind
theorem YF {a b:Bq} {d:Nat} {t:Rat}:hicB (atB t a) (atB t b) d=true↔a.pl d+a.sp d * t < b.far d+b.sp d * t/\b.pl d+b.sp d * t < a.far d+a.sp d * t:=by
 unfold hicB;rw [Bool.and_eq_true,decide_eq_true_eq,decide_eq_true_eq,Jc,Jc,Yb,Yb]
theorem way_hic {a b:Bq} {d:Nat} {now t:Rat} (lt:now<=t) (wa:0 < a.sz d) (wb:0 < b.sz d) (h:hicB (atB t a) (atB t b) d=true) :
  (∀ r,now<=r->r<=t->hicB (atB r a) (atB r b) d=true)\/
  ∃ s,now<=s/\s < t/\((¬ a.sp d<=b.sp d/\s=(b.pl d - a.far d) / (a.sp d - b.sp d))\/(¬ b.sp d<=a.sp d/\s=(a.pl d - b.far d) / (b.sp d - a.sp d)))/\∀ r,s < r->r<=t->hicB (atB r a) (atB r b) d=true:=by
 obtain ⟨k1,k2⟩:=YF.mp h;have fa:a.pl d < a.far d:=by unfold Bq.far; grind
 have fb:b.pl d < b.far d:=by unfold Bq.far; grind
 by_cases c1:a.pl d+a.sp d * now < b.far d+b.sp d * now
 ·by_cases c2:b.pl d+b.sp d * now < a.far d+a.sp d * now
  ·exact .inl λr h1 h2=>YF.mpr (hic_full k1 k2 c1 c2 r h1 h2)
  ·obtain ⟨s,z1,z2,z3,z4,z5⟩:=hic_half lt fb fa k2 k1 (Rat.not_lt.mp c2);exact .inr ⟨s,z1,z2,.inl ⟨z3,z4⟩,λr h1 h2=>YF.mpr (And.symm (z5 r h1 h2))⟩
 ·obtain ⟨s,z1,z2,z3,z4,z5⟩:=hic_half lt fa fb k1 k2 (Rat.not_lt.mp c1);exact .inr ⟨s,z1,z2,.inr ⟨z3,z4⟩,λr h1 h2=>YF.mpr (z5 r h1 h2)⟩
noncomputable def GdT (R:Rat × Rat) (gs:List Bq) (t:Rat):Prop:=(∀ b∈gs,InR R (atB t b))/\App (gs.map (atB t))
section
variable {R:Rat × Rat} {gs:List Bq} {now t:Rat}
theorem jd {i:Nat} (h:i < gs.length):bxAt (gs.map (atB t)) i=atB t (bxAt gs i):=by
 rw [jR (b:=atB t gs[i]) (by simp [h]),jR (gs:=gs) (b:=gs[i]) (List.getElem?_eq_getElem h)]
theorem yP {d i:Nat}:boxB R gs d (i:Int)=bxAt gs i:=by
 unfold boxB;rw [if_pos (Int.natCast_nonneg i)];rfl
theorem jnt_two {d i j:Nat}:jntP R gs (d,(i:Int),(j:Int))=if (bxAt gs i).sp d<=(bxAt gs j).sp d then none else some (((bxAt gs j).pl d - (bxAt gs i).far d) / ((bxAt gs i).sp d - (bxAt gs j).sp d)):=by
 unfold jntP;show (if (boxB R gs d (i:Int)).sp d<=(boxB R gs d (j:Int)).sp d then none else _)=_
 rw [yP,yP]
theorem in_two {d i j:Nat} (hd:d<=1) (hi:i < gs.length) (hj:j < gs.length) (ne:i≠j):InP gs.length (d,(i:Int),(j:Int)):=⟨hd,.inr ⟨i,hi,rfl⟩,.inr ⟨j,hj,rfl⟩,λz=>ne (by have:(i:Int)=(j:Int):=z; omega),.inl (Int.natCast_nonneg i)⟩
theorem met_two {d i j:Nat} {s:Rat}:metP R gs s (d,(i:Int),(j:Int))=hicB (atB s (bxAt gs i)) (atB s (bxAt gs j)) (1 - d):=by
 unfold metP;show hicB (atB s (boxB R gs d (i:Int))) (atB s (boxB R gs d (j:Int))) (1 - d)=_;rw [yP,yP]
theorem JF {d i j:Nat} {s:Rat} (hd:d<=1) (hi:i < gs.length) (hj:j < gs.length) (ne:i≠j) (h:(¬ (bxAt gs i).sp d<=(bxAt gs j).sp d/\s=((bxAt gs j).pl d - (bxAt gs i).far d) / ((bxAt gs i).sp d - (bxAt gs j).sp d))\/(¬ (bxAt gs j).sp d<=(bxAt gs i).sp d/\s=((bxAt gs i).pl d - (bxAt gs j).far d) / ((bxAt gs j).sp d - (bxAt gs i).sp d))) :
  ∃ x y:Nat,(x=i/\y=j\/x=j/\y=i)/\jntP R gs (d,(x:Int),(y:Int))=some s:=by
 rcases h with ⟨h1,h2⟩|⟨h1,h2⟩
 ·exact ⟨i,j,.inl ⟨rfl,rfl⟩,by rw [jnt_two,if_neg h1,h2]⟩
 ·exact ⟨j,i,.inr ⟨rfl,rfl⟩,by rw [jnt_two,if_neg h1,h2]⟩
theorem stay_two {i j:Nat} (hi:i < gs.length) (hj:j < gs.length) (ne:i≠j) (sz:∀ d,0 < (bxAt gs i).sz d/\0 < (bxAt gs j).sz d) (lt:now<=t) (hT:∀ T,comP R gs now=some T->t<=T)
  (a:(hicB (atB now (bxAt gs i)) (atB now (bxAt gs j)) 0 && hicB (atB now (bxAt gs i)) (atB now (bxAt gs j)) 1)=false):(hicB (atB t (bxAt gs i)) (atB t (bxAt gs j)) 0 && hicB (atB t (bxAt gs i)) (atB t (bxAt gs j)) 1)=false:=by
 rw [Bool.eq_false_iff];intro z;rw [Bool.and_eq_true] at z;have no:∀ (d x y:Nat) (s:Rat),d<=1->(x=i/\y=j\/x=j/\y=i)->jntP R gs (d,(x:Int),(y:Int))=some s->now<=s->s < t->(metP R gs s (d,(x:Int),(y:Int)) || corP R gs (d,(x:Int),(y:Int)))=true->False:=λd x y s hd xy e h1 h2 m=>by
  have ip:InP gs.length (d,(x:Int),(y:Int)):=by
   rcases xy with ⟨rfl,rfl⟩|⟨rfl,rfl⟩
   ·exact in_two hd hi hj ne
   ·exact in_two hd hj hi (Ne.symm ne)
  obtain ⟨T,e1,e2⟩:=J9 ip e h1 m;have:=hT T e1;grind
 have mt:∀ (d x y:Nat) (s:Rat),(x=i/\y=j\/x=j/\y=i)->hicB (atB s (bxAt gs i)) (atB s (bxAt gs j)) (1 - d)=true->metP R gs s (d,(x:Int),(y:Int))=true:=λd x y s xy h=>by
  rw [met_two];rcases xy with ⟨rfl,rfl⟩|⟨rfl,rfl⟩
  ·exact h
  ·rw [ZI]; exact h
 rcases way_hic lt (sz 0).1 (sz 0).2 z.1 with w0|⟨s0,n0,t0,c0,w0⟩
 ·rcases way_hic lt (sz 1).1 (sz 1).2 z.2 with w1|⟨s1,n1,t1,c1,w1⟩
  ·rw [w0 now Rat.le_refl lt,w1 now Rat.le_refl lt] at a;cases a
  ·obtain ⟨x,y,xy,e⟩:=JF (R:=R) (d:=1) (by decide) hi hj ne c1
   exact no 1 x y s1 (by decide) xy e n1 t1 (by rw [mt 1 x y s1 xy (w0 s1 n1 (Rat.le_of_lt t1))]; rfl)
 ·obtain ⟨x,y,xy,e⟩:=JF (R:=R) (d:=0) (by decide) hi hj ne c0
  rcases way_hic lt (sz 1).1 (sz 1).2 z.2 with w1|⟨s1,n1,t1,c1,w1⟩
  ·exact no 0 x y s0 (by decide) xy e n0 t0 (by rw [mt 0 x y s0 xy (w1 s0 n0 (Rat.le_of_lt t0))]; rfl)
  ·obtain ⟨x',y',xy',e'⟩:=JF (R:=R) (d:=1) (by decide) hi hj ne c1
   by_cases c:s0 < s1
   ·exact no 1 x' y' s1 (by decide) xy' e' n1 t1 (by rw [mt 1 x' y' s1 xy' (w0 s1 c (Rat.le_of_lt t1))]; rfl)
   ·by_cases c':s1 < s0
    ·exact no 0 x y s0 (by decide) xy e n0 t0 (by rw [mt 0 x y s0 xy (w1 s0 c' (Rat.le_of_lt t0))]; rfl)
    ·have es:s1=s0:=by grind
     subst es;refine no 0 x y s1 (by decide) xy e n0 t0 ?_
     have co:corP R gs (0,(x:Int),(y:Int))=true:=by
      unfold corP;rw [decide_eq_true (Int.natCast_nonneg x),decide_eq_true (Int.natCast_nonneg y),Bool.true_and,Bool.true_and,Bool.or_eq_true,decide_eq_true_eq,decide_eq_true_eq];show jntP R gs (0,(x:Int),(y:Int))=jntP R gs (1,(x:Int),(y:Int))\/jntP R gs (0,(x:Int),(y:Int))=jntP R gs (1,(y:Int),(x:Int));rw [e];rcases xy with ⟨rfl,rfl⟩|⟨rfl,rfl⟩<;>rcases xy' with ⟨rfl,rfl⟩|⟨rfl,rfl⟩
      ·exact .inl e'.symm
      ·exact .inr e'.symm
      ·exact .inr e'.symm
      ·exact .inl e'.symm
     rw [co,Bool.or_true]
end
theorem sum_set:∀ (l:List Rat) {i:Nat} {x y:Rat},l[i]?=some y->sumQ (l.set i x)=sumQ l - y+x
 |[],_,_,_,h=>by simp at h
 |a::l,0,x,y,h=>by
  simp at h;subst h;rw [List.set_cons_zero,YI,YI];grind
 |a::l,i+1,x,y,h=>by
  rw [List.set_cons_succ,YI,YI,sum_set l (by simpa using h)]
  grind
theorem wall_lin {p f v L now t:Rat} (lt:now<=t) (n1:0<=p+v * now) (n2:f+v * now<=L) :
  (∀ r,now<=r->r<=t->0<=p+v * r/\f+v * r<=L)\/∃ s,now<=s/\s < t/\((¬ 0<=v/\s=(p - 0) / (0 - v))\/(¬ v<=0/\s=(L - f) / (v - 0)))/\∀ r,now<=r->r<=s->0<=p+v * r/\f+v * r<=L:=by
 by_cases v0:0<=v
 ·by_cases v1:v<=0
  ·have e:v=0:=by grind
   subst e;exact .inl λr _ _=>⟨by grind,by grind⟩
  ·have vp:0 < v - 0:=by grind
   have e:(v - 0) * ((L - f) / (v - 0))=L - f:=by
    have:v - 0≠0:=by grind
    grind
   generalize hs:(L - f) / (v - 0)=s at e;have k:∀ r,now<=r->r<=s->0<=p+v * r/\f+v * r<=L:=λr h1 h2=>by
    have e1:=ZN vp (show 0<=r - now by grind)
    have e2:=ZN vp (show 0<=s - r by grind)
    exact ⟨by grind,by grind⟩
   by_cases c:s < t
   ·exact .inr ⟨s,Zw vp (by grind),c,.inr ⟨v1,rfl⟩,k⟩
   ·exact .inl λr h1 h2=>k r h1 (by grind)
 ·have vp:0 < 0 - v:=by grind
  have e:(0 - v) * ((p - 0) / (0 - v))=p - 0:=by
   have:0 - v≠0:=by grind
   grind
  generalize hs:(p - 0) / (0 - v)=s at e;have k:∀ r,now<=r->r<=s->0<=p+v * r/\f+v * r<=L:=λr h1 h2=>by
   have e1:=ZN vp (show 0<=r - now by grind)
   have e2:=ZN vp (show 0<=s - r by grind)
   exact ⟨by grind,by grind⟩
  by_cases c:s < t
  ·exact .inr ⟨s,Zw vp (by grind),c,.inl ⟨v0,rfl⟩,k⟩
  ·exact .inl λr h1 h2=>k r h1 (by grind)
noncomputable def rmD (R:Rat × Rat) (d:Nat):Rat:=if d=0 then R.1 else R.2
section
variable {R:Rat × Rat} {gs:List Bq} {now t:Rat}
theorem wall_near {d:Nat} (hd:d<=1):(boxB R gs d (-1)).far d=0/\(boxB R gs d (-1)).sp d=0/\(boxB R gs d (-1)).pl (1 - d)=0/\(boxB R gs d (-1)).far (1 - d)=rmD R (1 - d)/\(boxB R gs d (-1)).sp (1 - d)=0:=by
 rcases d01 hd with rfl|rfl
 ·refine ⟨?_,rfl,rfl,?_,rfl⟩
  ·show (-1:Rat)+1=0;grind
  ·show (0:Rat)+R.2=R.2;grind
 ·refine ⟨?_,rfl,rfl,?_,rfl⟩
  ·show (-1:Rat)+1=0;grind
  ·show (0:Rat)+R.1=R.1;grind
theorem wall_far {d:Nat} (hd:d<=1):(boxB R gs d (-2)).pl d=rmD R d/\(boxB R gs d (-2)).sp d=0/\(boxB R gs d (-2)).pl (1 - d)=0/\(boxB R gs d (-2)).far (1 - d)=rmD R (1 - d)/\(boxB R gs d (-2)).sp (1 - d)=0:=by
 rcases d01 hd with rfl|rfl
 ·refine ⟨rfl,rfl,rfl,?_,rfl⟩;show (0:Rat)+R.2=R.2;grind
 ·refine ⟨rfl,rfl,rfl,?_,rfl⟩;show (0:Rat)+R.1=R.1;grind
theorem Js {b:Bq}:InR R (atB t b)↔(0 < b.w/\0 < b.h)/\∀ d,d<=1->0<=b.pl d+b.sp d * t/\b.far d+b.sp d * t<=rmD R d:=by
 have e0:=Yb b t 0;have e1:=Yb b t 1;have p0:=Jc b t 0;have p1:=Jc b t 1;constructor
 ·rintro ⟨h1,h2,h3,h4,h5,h6⟩;refine ⟨⟨h1,h2⟩,λd hd=>?_⟩
  rcases d01 hd with rfl|rfl
  ·exact ⟨by rw [<- p0]; exact h3,by rw [<- e0]; exact h5⟩
  ·exact ⟨by rw [<- p1]; exact h4,by rw [<- e1]; exact h6⟩
 ·rintro ⟨⟨h1,h2⟩,h⟩;have a:=h 0 (by decide)
  have b':=h 1 (by decide)
  rw [<- p0,<- e0] at a;rw [<- p1,<- e1] at b';exact ⟨h1,h2,a.1,b'.1,a.2,b'.2⟩
theorem sz_pos {b:Bq} (h:0 < b.w/\0 < b.h) (d:Nat):0 < b.sz d:=by
 unfold Bq.sz;split
 ·exact h.1
 ·exact h.2
theorem stay_in {i:Nat} (hi:i < gs.length) (r0:∀ d,0 < rmD R d) (lt:now<=t) (hT:∀ T,comP R gs now=some T->t<=T) (h:InR R (atB now (bxAt gs i))):InR R (atB t (bxAt gs i)):=by
 obtain ⟨hs,hw⟩:=Js.mp h;have sp:=sz_pos hs;have no:∀ (d:Nat) (s:Rat),d<=1->now<=s->s < t->((¬ 0<=(bxAt gs i).sp d/\s=((bxAt gs i).pl d - 0) / (0 - (bxAt gs i).sp d))\/(¬ (bxAt gs i).sp d<=0/\s=(rmD R d - (bxAt gs i).far d) / ((bxAt gs i).sp d - 0)))->(0<=(bxAt gs i).pl (1 - d)+(bxAt gs i).sp (1 - d) * s/\(bxAt gs i).far (1 - d)+(bxAt gs i).sp (1 - d) * s<=rmD R (1 - d))->False:=λd s hd n s' c w=>by
  have fr:(bxAt gs i).far (1 - d)=(bxAt gs i).pl (1 - d)+(bxAt gs i).sz (1 - d):=rfl;have sz:=sp (1 - d);have l1:(bxAt gs i).pl (1 - d)+(bxAt gs i).sp (1 - d) * s < rmD R (1 - d):=by grind
  have l2:0 < (bxAt gs i).far (1 - d)+(bxAt gs i).sp (1 - d) * s:=by grind
  rcases c with ⟨c1,c2⟩|⟨c1,c2⟩
  ·obtain ⟨w1,w2,w3,w4,w5⟩:=wall_near (R:=R) (gs:=gs) hd;have ip:InP gs.length (d,-1,(i:Int)):=⟨hd,.inl rfl,.inr ⟨i,hi,rfl⟩,(by show (-1:Int)≠(i:Int); omega),.inr (Int.natCast_nonneg i)⟩
   have j:jntP R gs (d,-1,(i:Int))=some s:=by
    unfold jntP;show (if (boxB R gs d (-1)).sp d<=(boxB R gs d (i:Int)).sp d then none else some (((boxB R gs d (i:Int)).pl d - (boxB R gs d (-1)).far d) / ((boxB R gs d (-1)).sp d - (boxB R gs d (i:Int)).sp d)))=_
    rw [yP,w1,w2,if_neg c1,c2]
   have m:metP R gs s (d,-1,(i:Int))=true:=by
    unfold metP;show hicB (atB s (boxB R gs d (-1))) (atB s (boxB R gs d (i:Int))) (1 - d)=true;rw [yP,YF,w3,w4,w5];exact ⟨by grind,by grind⟩
   obtain ⟨T,e1,e2⟩:=J9 ip j n (by rw [m]; rfl)
   have:=hT T e1;grind
  ·obtain ⟨w1,w2,w3,w4,w5⟩:=wall_far (R:=R) (gs:=gs) hd;have ip:InP gs.length (d,(i:Int),-2):=⟨hd,.inr ⟨i,hi,rfl⟩,.inl rfl,(by show (i:Int)≠-2; omega),.inl (Int.natCast_nonneg i)⟩
   have j:jntP R gs (d,(i:Int),-2)=some s:=by
    unfold jntP;show (if (boxB R gs d (i:Int)).sp d<=(boxB R gs d (-2)).sp d then none else some (((boxB R gs d (-2)).pl d - (boxB R gs d (i:Int)).far d) / ((boxB R gs d (i:Int)).sp d - (boxB R gs d (-2)).sp d)))=_
    rw [yP,w1,w2,if_neg c1,c2]
   have m:metP R gs s (d,(i:Int),-2)=true:=by
    unfold metP;show hicB (atB s (boxB R gs d (i:Int))) (atB s (boxB R gs d (-2))) (1 - d)=true;rw [yP,YF,w3,w4,w5];exact ⟨by grind,by grind⟩
   obtain ⟨T,e1,e2⟩:=J9 ip j n (by rw [m]; rfl)
   have:=hT T e1;grind
 have a0:=hw 0 (by decide)
 have a1:=hw 1 (by decide)
 rcases wall_lin lt a0.1 a0.2 with w0|⟨s0,n0,t0,c0,w0⟩
 ·rcases wall_lin lt a1.1 a1.2 with w1|⟨s1,n1,t1,c1,w1⟩
  ·refine Js.mpr ⟨hs,λd hd=>?_⟩
   rcases d01 hd with rfl|rfl
   ·exact w0 t lt Rat.le_refl
   ·exact w1 t lt Rat.le_refl
  ·exact (no 1 s1 (by decide) n1 t1 c1 (w0 s1 n1 (Rat.le_of_lt t1))).elim
 ·rcases wall_lin lt a1.1 a1.2 with w1|⟨s1,n1,t1,c1,w1⟩
  ·exact (no 0 s0 (by decide) n0 t0 c0 (w1 s0 n0 (Rat.le_of_lt t0))).elim
  ·rcases (Rat.le_total (a:=s0) (b:=s1)) with z|z
   ·exact (no 0 s0 (by decide) n0 t0 c0 (w1 s0 n0 z)).elim
   ·exact (no 1 s1 (by decide) n1 t1 c1 (w0 s1 n1 z)).elim
theorem rm_pos (r1:0 < R.1) (r2:0 < R.2) (d:Nat):0 < rmD R d:=by
 unfold rmD;split
 ·exact r1
 ·exact r2
theorem bx_mem {i:Nat} (h:i < gs.length):bxAt gs i∈gs:=by
 rw [jR (List.getElem?_eq_getElem h)];exact List.getElem_mem h
theorem gd_stay (r1:0 < R.1) (r2:0 < R.2) (g:GdT R gs now) (lt:now<=t) (hT:∀ T,comP R gs now=some T->t<=T):GdT R gs t:=by
 refine ⟨λb hb=>?_,λi j ij jl=>?_⟩
 ·obtain ⟨i,hi,rfl⟩:=List.getElem_of_mem hb;have e:bxAt gs i=gs[i]:=jR (List.getElem?_eq_getElem hi);rw [<- e];exact stay_in hi (rm_pos r1 r2) lt hT (g.1 _ (bx_mem hi))
 ·rw [List.length_map] at jl;have a:=g.2 i j ij (by rw [List.length_map]; exact jl)
  rw [jd (by omega),jd jl] at a ⊢
  have si:=(Js.mp (g.1 _ (bx_mem (gs:=gs) (i:=i) (by omega)))).1
  have sj:=(Js.mp (g.1 _ (bx_mem jl))).1;exact stay_two (by omega) jl (by omega) (λd=>⟨sz_pos si d,sz_pos sj d⟩) lt hT a
end
noncomputable def PosE (T:Rat) (b b':Bq):Prop:=(∀ d,d<=1->b'.pl d+b'.sp d * T=b.pl d+b.sp d * T/\b'.sz d=b.sz d)/\b'.m=b.m
theorem PosE.refl (T:Rat) (b:Bq):PosE T b b:=⟨λ_ _=>⟨rfl,rfl⟩,rfl⟩
theorem PosE.trans {T:Rat} {a b c:Bq} (h:PosE T a b) (g:PosE T b c):PosE T a c:=⟨λd hd=>⟨(g.1 d hd).1.trans (h.1 d hd).1,(g.1 d hd).2.trans (h.1 d hd).2⟩,g.2.trans h.2⟩
theorem mix_meet {x y T c:Rat} {v w:Rat} {m u:Int} (m1:1<=m) (u1:1<=u) (h1:x+v * T=c) (h2:y+w * T=c):mixQ x y m u+mixQ v w m u * T=c:=by
 have k:(((m+u:Int)):Rat)≠0:=by
  intro z;have:m+u=0:=Rat.intCast_inj.mp z;omega
 rw [Rat.intCast_add] at k;rw [y7,y7];have e:∀ p q:Rat,p * (((m:Rat) - u) / (m+u))+q * ((2 * u) / (m+u))=(p * ((m:Rat) - u)+q * (2 * u)) / (m+u):=λp q=>by grind
 rw [e,e];have e2:x * ((m:Rat) - u)+y * (2 * u)+(v * ((m:Rat) - u)+w * (2 * u)) * T=c * ((m:Rat)+u):=by grind
 have e3:(x * ((m:Rat) - u)+y * (2 * u)) / ((m:Rat)+u)+(v * ((m:Rat) - u)+w * (2 * u)) / ((m:Rat)+u) * T=(x * ((m:Rat) - u)+y * (2 * u)+(v * ((m:Rat) - u)+w * (2 * u)) * T) / ((m:Rat)+u):=by grind
 rw [e3,e2];grind
theorem ptd_keep {a b:Rat × Rat × Option Int} {T:Rat} (wa:1<=a.2.2.getD 1) (wb:∀ u,b.2.2=some u->1<=u) (w0:b.2.2=none->b.2.1=0) (e:a.1+a.2.1 * T=b.1+b.2.1 * T):(ptd a b).1+(ptd a b).2 * T=a.1+a.2.1 * T:=by
 obtain ⟨b1,b2,b3⟩:=b;cases b3 with
 |none=>
  have z:b2=0:=w0 rfl;subst z;show b1+b1 - a.1+-a.2.1 * T=_;have e':a.1+a.2.1 * T=b1+0 * T:=e;grind
 |some u=>exact mix_meet wa (wb u rfl) rfl e.symm
section
variable {R:Rat × Rat} {gs hV:List Bq} {now T:Rat} {q:Pr}
theorem wall_sp {d:Nat} {i:Int} (i0:¬ 0<=i) (e:Nat):(boxB R gs d i).sp e=0:=by
 unfold boxB;rw [if_neg i0];unfold yh;split<;>split<;>(unfold Bq.sp; split<;>rfl)
theorem Jy (hw:WtB gs) (h:InP gs.length q) {i:Int} (hi:i=q.2.1\/i=q.2.2) (d:Nat):1<=(boxB R gs d i).m.getD 1/\(∀ u,(boxB R gs d i).m=some u->1<=u)/\((boxB R gs d i).m=none->∀ e,(boxB R gs d i).sp e=0):=by
 by_cases i0:0<=i
 ·have l:i.toNat < gs.length:=by
   rcases hi with rfl|rfl
   ·exact h.l1 i0
   ·exact h.l2 i0
  obtain ⟨m,e,m1,_⟩:=jP (R:=R) (d:=d) hw i0 l;rw [e];exact ⟨m1,λu z=>by cases z; exact m1,λz=>(nomatch z)⟩
 ·rw [YZ i0];exact ⟨by decide,λu z=>(nomatch z),λ_ e=>wall_sp i0 e⟩
noncomputable def TchT (R:Rat × Rat) (gs:List Bq) (q:Pr) (T:Rat):Prop:=(boxB R gs q.1 q.2.1).far q.1+(boxB R gs q.1 q.2.1).sp q.1 * T=(boxB R gs q.1 q.2.2).pl q.1+(boxB R gs q.1 q.2.2).sp q.1 * T
theorem jnt_tch (h:jntP R gs q=some T):TchT R gs q T:=by
 unfold jntP at h;split at h
 ·cases h
 ·rename_i c
  injection h with h
  unfold TchT;generalize (boxB R gs q.1 q.2.1).far q.1=f at h ⊢;generalize (boxB R gs q.1 q.2.2).pl q.1=p at h ⊢;generalize (boxB R gs q.1 q.2.1).sp q.1=v at h c ⊢;generalize (boxB R gs q.1 q.2.2).sp q.1=w at h c ⊢;have:v - w≠0:=by grind
  grind
theorem pos_with {b:Bq} {d:Nat} {p s:Rat} (hd:d<=1) (h:p+s * T=b.pl d+b.sp d * T):PosE T b (b.with d p s):=by
 refine ⟨λe he=>?_,with_m⟩
 rw [Yr hd he,jW hd he,with_sz];refine ⟨?_,rfl⟩;by_cases c:e=d
 ·subst c;rw [if_pos rfl,if_pos rfl,h]
 ·rw [if_neg c,if_neg c]
theorem prt_keep (h:InP gs.length q) (hw:WtB gs) (t:TchT R gs q T) (i:Nat):PosE T (bxAt gs i) (bxAt (prtP R gs q) i):=by
 have z:=Yu (R:=R) h q.1 (i:Int);rw [yP,yP] at z;rw [z];obtain ⟨a1,a2,a3⟩:=Jy (R:=R) (i:=q.2.1) hw h (.inl rfl) q.1;obtain ⟨b1,b2,b3⟩:=Jy (R:=R) (i:=q.2.2) hw h (.inr rfl) q.1;unfold TchT at t;split
 ·rename_i c
  have e:bxAt gs i=boxB R gs q.1 q.2.1:=by rw [<- c.2,yP]
  rw [e];unfold oneP Zk;refine pos_with h.1 ?_;have k:=ptd_keep (a:=farG (boxB R gs q.1 q.2.1) q.1) (b:=zm (boxB R gs q.1 q.2.2) q.1) (T:=T) a1 b2 (λz=>b3 z q.1) t
  have f:(farG (boxB R gs q.1 q.2.1) q.1).1=(boxB R gs q.1 q.2.1).pl q.1+(boxB R gs q.1 q.2.1).sz q.1:=rfl;have f2:(farG (boxB R gs q.1 q.2.1) q.1).2.1=(boxB R gs q.1 q.2.1).sp q.1:=rfl;rw [f,f2] at k;grind
 ·split
  ·rename_i c
   have e:bxAt gs i=boxB R gs q.1 q.2.2:=by rw [<- c.2,yP]
   rw [e];unfold othP Zg;refine pos_with h.1 ?_;exact ptd_keep (a:=zm (boxB R gs q.1 q.2.2) q.1) (b:=farG (boxB R gs q.1 q.2.1) q.1) (T:=T) b1 a2 (λz=>a3 z q.1) t.symm
  ·exact PosE.refl T _
noncomputable def PosL (T:Rat) (gs gs':List Bq):Prop:=gs'.length=gs.length/\∀ i,PosE T (bxAt gs i) (bxAt gs' i)
theorem PosE.far {b b':Bq} (h:PosE T b b') {d:Nat} (hd:d<=1):b'.far d+b'.sp d * T=b.far d+b.sp d * T:=by
 have:=h.1 d hd;unfold Bq.far;grind
theorem tch_pos (h:PosL T hV gs) (hd:q.1<=1) (t:TchT R hV q T):TchT R gs q T:=by
 unfold TchT at t ⊢;have k:∀ i:Int,PosE T (boxB R hV q.1 i) (boxB R gs q.1 i):=λi=>by
  unfold boxB;split
  ·exact h.2 _
  ·exact PosE.refl _ _
 rw [(k _).far hd,((k _).1 _ hd).1,t]
theorem fold_keep:∀ (l:List Pr) {gs:List Bq},(∀ q∈l,InP gs.length q/\TchT R hV q T)->WtB gs->PosL T hV gs->PosL T hV (l.foldl (prtP R) gs)
 |[],_,_,_,h=>h
 |q::l,gs,hl,hw,h=>by
  obtain ⟨hq,tq⟩:=hl q (List.mem_cons_self ..);rw [List.foldl_cons];refine fold_keep l (λr hr=>?_) (prt_wt hw hq) ⟨by rw [yT]; exact h.1,λi=>(h.2 i).trans (prt_keep hq hw (tch_pos h hq.1 tq) i)⟩
  have:=hl r (List.mem_cons_of_mem _ hr);rw [yT];exact this
theorem due_jnt (h:comP R gs now=some T) (hq:q∈dueP R gs now):InP gs.length q/\TchT R gs q T:=by
 refine ⟨z7 q hq,jnt_tch ?_⟩;have z:=(List.mem_filter.mp hq).2;rw [Bool.and_eq_true] at z;have y:=z.1;unfold cmgP at y;rw [Bool.and_eq_true,h] at y;exact of_decide_eq_true y.2
theorem on_keep (h:comP R gs now=some T) (hw:WtB gs):PosL T gs (onP R gs now):=fold_keep _ (λq hq=>due_jnt h hq) hw ⟨rfl,λi=>PosE.refl T _⟩
theorem PosE.at {b b':Bq} (h:PosE T b b') {d:Nat} (hd:d<=1):(atB T b').pl d=(atB T b).pl d/\(atB T b').far d=(atB T b).far d/\(atB T b').sz d=(atB T b).sz d:=by
 rw [Jc,Jc,Yb,Yb,h.far hd,(h.1 d hd).1,at_sz,at_sz];exact ⟨rfl,rfl,(h.1 d hd).2⟩
theorem gd_pos {gs':List Bq} (h:PosL T gs gs') (g:GdT R gs T):GdT R gs' T:=by
 refine ⟨λb hb=>?_,λi j ij jl=>?_⟩
 ·obtain ⟨i,hi,rfl⟩:=List.getElem_of_mem hb;have e:bxAt gs' i=gs'[i]:=jR (List.getElem?_eq_getElem hi);rw [<- e];have il:i < gs.length:=by rw [<- h.1]; exact hi
  obtain ⟨h1,h2,h3,h4,h5,h6⟩:=g.1 _ (bx_mem il);have a0:=(h.2 i).at (d:=0) (by decide)
  have a1:=(h.2 i).at (d:=1) (by decide)
  refine ⟨?_,?_,?_,?_,?_,?_⟩
  ·show 0 < (atB T (bxAt gs' i)).sz 0; rw [a0.2.2]; exact h1
  ·show 0 < (atB T (bxAt gs' i)).sz 1; rw [a1.2.2]; exact h2
  ·show 0<=(atB T (bxAt gs' i)).pl 0; rw [a0.1]; exact h3
  ·show 0<=(atB T (bxAt gs' i)).pl 1; rw [a1.1]; exact h4
  ·rw [a0.2.1]; exact h5
  ·rw [a1.2.1]; exact h6
 ·rw [List.length_map,h.1] at jl;have a:=g.2 i j ij (by rw [List.length_map]; exact jl)
  rw [jd (by omega),jd jl] at a
  rw [jd (by rw [h.1]; omega),jd (by rw [h.1]; exact jl)]
  have k:∀ d,d<=1->hicB (atB T (bxAt gs' i)) (atB T (bxAt gs' j)) d=hicB (atB T (bxAt gs i)) (atB T (bxAt gs j)) d:=λd hd=>by
   unfold hicB;rw [((h.2 i).at hd).1,((h.2 i).at hd).2.1,((h.2 j).at hd).1,((h.2 j).at hd).2.1]
  rw [k 0 (by decide),k 1 (by decide)]
  exact a
end
noncomputable def mgB (b:Bq):Rat:=((b.m.getD 1:Int):Rat) * (b.u * b.u+b.v * b.v)
noncomputable def mgt (gs:List Bq):Rat:=sumQ (gs.map mgB)
theorem mg_sp (b:Bq) {d:Nat} (hd:d<=1):mgB b=((b.m.getD 1:Int):Rat) * (b.sp d * b.sp d+b.sp (1 - d) * b.sp (1 - d)):=by
 rcases d01 hd with rfl|rfl
 ·rfl
 ·show _=((b.m.getD 1:Int):Rat) * (b.v * b.v+b.u * b.u);unfold mgB;grind
theorem mg_with {b:Bq} {d:Nat} {p s:Rat} (hd:d<=1):mgB (b.with d p s)=((b.m.getD 1:Int):Rat) * (s * s+b.sp (1 - d) * b.sp (1 - d)):=by
 rw [mg_sp _ hd,with_m,jW hd hd,jW hd (show 1 - d<=1 by omega),if_pos rfl,if_neg (by omega)]
theorem mix_mt (v w:Rat) {m u:Int} (m1:1<=m) (u1:1<=u):(m:Rat) * (mixQ v w m u * mixQ v w m u)+(u:Rat) * (mixQ w v u m * mixQ w v u m)=(m:Rat) * (v * v)+(u:Rat) * (w * w):=by
 have k:(((m+u:Int)):Rat)≠0:=by
  intro z;have:m+u=0:=Rat.intCast_inj.mp z;omega
 rw [Rat.intCast_add] at k;rw [y7,y7];generalize (m:Rat)=a at k ⊢;generalize (u:Rat)=b at k ⊢;have k':b+a=a+b:=by grind
 rw [k'];grind
section
variable {R:Rat × Rat} {gs:List Bq} {now T:Rat} {q:Pr}
theorem mg_set {l:List Bq} {k:Nat} {b:Bq} (h:k < l.length):mgt (l.set k b)=mgt l - mgB (bxAt l k)+mgB b:=by
 unfold mgt;rw [List.map_set];refine sum_set _ ?_;rw [List.getElem?_map,List.getElem?_eq_getElem h,jR (List.getElem?_eq_getElem h)];rfl
theorem one_mg (hd:q.1<=1):mgB (oneP R gs q)=(((boxB R gs q.1 q.2.1).m.getD 1:Int):Rat) * ((ptd (farG (boxB R gs q.1 q.2.1) q.1) (zm (boxB R gs q.1 q.2.2) q.1)).2 * (ptd (farG (boxB R gs q.1 q.2.1) q.1) (zm (boxB R gs q.1 q.2.2) q.1)).2+(boxB R gs q.1 q.2.1).sp (1 - q.1) * (boxB R gs q.1 q.2.1).sp (1 - q.1)):=mg_with hd
theorem oth_mg (hd:q.1<=1):mgB (othP R gs q)=(((boxB R gs q.1 q.2.2).m.getD 1:Int):Rat) * ((ptd (zm (boxB R gs q.1 q.2.2) q.1) (farG (boxB R gs q.1 q.2.1) q.1)).2 * (ptd (zm (boxB R gs q.1 q.2.2) q.1) (farG (boxB R gs q.1 q.2.1) q.1)).2+(boxB R gs q.1 q.2.2).sp (1 - q.1) * (boxB R gs q.1 q.2.2).sp (1 - q.1)):=mg_with hd
theorem ZR {a b:Rat × Rat × Option Int} (h:b.2.2=none):(ptd a b).2=-a.2.1:=by
 obtain ⟨b1,b2,b3⟩:=b;cases h
 rfl
theorem ZK {a b:Rat × Rat × Option Int} {u:Int} (h:b.2.2=some u):(ptd a b).2=mixQ a.2.1 b.2.1 (a.2.2.getD 1) u:=by
 obtain ⟨b1,b2,b3⟩:=b;cases h
 rfl
theorem box_bx {d:Nat} {i:Int} (i0:0<=i):boxB R gs d i=bxAt gs i.toNat:=by
 unfold boxB;rw [if_pos i0]
theorem prt_might (h:InP gs.length q) (hw:WtB gs):mgt (prtP R gs q)=mgt gs:=by
 have hd:=h.1;by_cases c1:0<=q.2.1
 ·have l1:=h.l1 c1;obtain ⟨m,em,m1,_⟩:=jP (R:=R) (d:=q.1) hw c1 l1;have e1:=box_bx (R:=R) (gs:=gs) (d:=q.1) c1;have pA:prtA R gs q=gs.set q.2.1.toNat (oneP R gs q):=by unfold prtA; rw [if_pos c1]; rfl
  have sA:mgt (prtA R gs q)=mgt gs - mgB (boxB R gs q.1 q.2.1)+mgB (oneP R gs q):=by rw [pA,mg_set l1,e1]
  by_cases c2:0<=q.2.2
  ·have l2:=h.l2 c2;obtain ⟨u,eu,u1,_⟩:=jP (R:=R) (d:=q.1) hw c2 l2;have e2:=box_bx (R:=R) (gs:=gs) (d:=q.1) c2;have ne:q.2.2.toNat≠q.2.1.toNat:=by have:=h.2.2.2.1; omega
   have sP:mgt (prtP R gs q)=mgt (prtA R gs q) - mgB (boxB R gs q.1 q.2.2)+mgB (othP R gs q):=by
    have:prtP R gs q=(prtA R gs q).set q.2.2.toNat (othP R gs q):=by unfold prtP; rw [if_pos c2]; rfl
    rw [this,mg_set (by rw [Z9]; exact l2),e2,pA,set_at _ _ _ _ l1,if_neg ne]
   rw [sP,sA,one_mg hd,oth_mg hd,ZK (u:=u) (show (zm (boxB R gs q.1 q.2.2) q.1).2.2=some u from eu),ZK (u:=m) (show (farG (boxB R gs q.1 q.2.1) q.1).2.2=some m from em),mg_sp (boxB R gs q.1 q.2.1) hd,mg_sp (boxB R gs q.1 q.2.2) hd];have k:=mix_mt ((boxB R gs q.1 q.2.1).sp q.1) ((boxB R gs q.1 q.2.2).sp q.1) m1 u1;have x1:mixQ (farG (boxB R gs q.1 q.2.1) q.1).2.1 (zm (boxB R gs q.1 q.2.2) q.1).2.1 ((farG (boxB R gs q.1 q.2.1) q.1).2.2.getD 1) u=mixQ ((boxB R gs q.1 q.2.1).sp q.1) ((boxB R gs q.1 q.2.2).sp q.1) m u:=by
    show mixQ _ _ ((boxB R gs q.1 q.2.1).m.getD 1) u=_;rw [em];rfl
   have x2:mixQ (zm (boxB R gs q.1 q.2.2) q.1).2.1 (farG (boxB R gs q.1 q.2.1) q.1).2.1 ((zm (boxB R gs q.1 q.2.2) q.1).2.2.getD 1) m=mixQ ((boxB R gs q.1 q.2.2).sp q.1) ((boxB R gs q.1 q.2.1).sp q.1) u m:=by
    show mixQ _ _ ((boxB R gs q.1 q.2.2).m.getD 1) m=_;rw [eu];rfl
   have g1:(boxB R gs q.1 q.2.1).m.getD 1=m:=by rw [em]; rfl
   have g2:(boxB R gs q.1 q.2.2).m.getD 1=u:=by rw [eu]; rfl
   rw [x1,x2,g1,g2];generalize mixQ ((boxB R gs q.1 q.2.1).sp q.1) ((boxB R gs q.1 q.2.2).sp q.1) m u=x at k ⊢;generalize mixQ ((boxB R gs q.1 q.2.2).sp q.1) ((boxB R gs q.1 q.2.1).sp q.1) u m=y at k ⊢;generalize (boxB R gs q.1 q.2.1).sp q.1=v at k ⊢;generalize (boxB R gs q.1 q.2.2).sp q.1=w at k ⊢;generalize (boxB R gs q.1 q.2.1).sp (1 - q.1)=v';generalize (boxB R gs q.1 q.2.2).sp (1 - q.1)=w';clear x1 x2 g1 g2 em eu;grind
  ·have sP:prtP R gs q=prtA R gs q:=by unfold prtP; rw [if_neg c2]
   rw [sP,sA,one_mg hd,ZR (show (zm (boxB R gs q.1 q.2.2) q.1).2.2=none from YZ c2),mg_sp (boxB R gs q.1 q.2.1) hd];show mgt gs - _+(_ * (-(boxB R gs q.1 q.2.1).sp q.1 * -(boxB R gs q.1 q.2.1).sp q.1+_))=mgt gs;grind
 ·have c2:0<=q.2.2:=by rcases h.2.2.2.2 with z|z<;>first|exact absurd z c1|exact z
  have l2:=h.l2 c2;have e2:=box_bx (R:=R) (gs:=gs) (d:=q.1) c2;have pA:prtA R gs q=gs:=by unfold prtA; rw [if_neg c1]
  have sP:mgt (prtP R gs q)=mgt gs - mgB (boxB R gs q.1 q.2.2)+mgB (othP R gs q):=by
   have:prtP R gs q=(prtA R gs q).set q.2.2.toNat (othP R gs q):=by unfold prtP; rw [if_pos c2]; rfl
   rw [this,pA,mg_set l2,e2]
  rw [sP,oth_mg hd,ZR (show (farG (boxB R gs q.1 q.2.1) q.1).2.2=none from YZ c1),mg_sp (boxB R gs q.1 q.2.2) hd];show mgt gs - _+(_ * (-(boxB R gs q.1 q.2.2).sp q.1 * -(boxB R gs q.1 q.2.2).sp q.1+_))=mgt gs;grind
theorem J3:∀ (l:List Pr) {gs:List Bq},(∀ q∈l,InP gs.length q)->WtB gs->mgt (l.foldl (prtP R) gs)=mgt gs
 |[],_,_,_=>rfl
 |q::l,gs,hl,hw=>by
  have hq:=hl q (List.mem_cons_self ..);rw [List.foldl_cons,J3 l (λr hr=>by rw [yT]; exact hl r (List.mem_cons_of_mem _ hr)) (prt_wt hw hq),prt_might hq hw]
end
theorem CmP.up {B B':Nat} {R:Rat × Rat} {gs:List Bq} (h:CmP B R gs) (l:B<=B'):CmP B' R gs:=by
 obtain ⟨D,d1,d2,r1,r2,al⟩:=h;have p:2 ^ B<=2 ^ B':=Nat.pow_le_pow_right (by decide) l
 refine ⟨D,d1,by omega,r1.mono l,r2.mono l,λb hb=>?_⟩
 obtain ⟨a1,a2,a3,a4,a5,a6⟩:=al b hb;exact ⟨a1.mono l,a2.mono l,a3.mono l,a4.mono l,a5.mono l,a6.mono l⟩
structure AllP (R:Rat × Rat) (gs:List Bq) (now:Rat) (B:Nat) (es:List Bq) (last:Rat):Prop where
 gd:GdT R es last
 wt:WtB es
 cm:CmP B R es
 mg:mgt es=mgt gs
 le:now<=last
 ln:es.length=gs.length
 sz:∀ i,(∀ d,d<=1->(bxAt es i).sz d=(bxAt gs i).sz d)/\(bxAt es i).m=(bxAt gs i).m
 fb:last=now\/FB (B+2) last
theorem on_all {R:Rat × Rat} {gs:List Bq} {now t:Rat} {B:Nat} (r1:0 < R.1) (r2:0 < R.2) (l6:gs.length<=6) (hw:WtB gs) (cm:CmP B R gs) (g:GdT R gs now) (h:comP R gs now=some t) (c:crwP R gs now=false):AllP R gs now (B+90) (onP R gs now) t:=by
 have cg:=Z8 h;have two:twoP (dueP R gs now)=false:=by
  unfold crwP at c;rw [Bool.or_eq_false_iff] at c;exact c.1
 have six:=Jp l6 two;have fc:=Yf (dueP R gs now) cm hw z7;have ps:=on_keep h hw;refine ⟨gd_pos ps (gd_stay r1 r2 g cg.1 (λT e=>by rw [h] at e; cases e; exact Rat.le_refl)),fc.2,fc.1.up (by omega),J3 _ z7 hw,cg.1,ps.1,λi=>⟨λd hd=>((ps.2 i).1 d hd).2,(ps.2 i).2⟩,.inr ?_⟩
 obtain ⟨_,p,_,j,_⟩:=cg;exact (cm.jnt j).mono (by omega)
theorem run_all {R:Rat × Rat} {gs:List Bq} {now:Rat} {n:Nat} {wd:String} {ms:List (Rat × Pr)} {es:List Bq} {last:Rat} (r:RunP R gs now n wd ms es last) (r1:0 < R.1) (r2:0 < R.2):∀ {B:Nat},gs.length<=6->WtB gs->CmP B R gs->GdT R gs now->AllP R gs now (B+90 * n) es last:=by
 induction r with
 |still h=>exact λl6 hw cm g=>⟨g,hw,cm.up (by omega),rfl,Rat.le_refl,rfl,λi=>⟨λ_ _=>rfl,rfl⟩,.inl rfl⟩
 |more h=>exact λl6 hw cm g=>⟨g,hw,cm.up (by omega),rfl,Rat.le_refl,rfl,λi=>⟨λ_ _=>rfl,rfl⟩,.inl rfl⟩
 |crowd h c=>exact λl6 hw cm g=>⟨g,hw,cm.up (by omega),rfl,Rat.le_refl,rfl,λi=>⟨λ_ _=>rfl,rfl⟩,.inl rfl⟩
 |@step gs now t n wd ms es last h c r ih=>
  intro B l6 hw cm g;have a:=on_all r1 r2 l6 hw cm g h c;have z:=ih (B:=B+90) (by rw [a.ln]; exact l6) a.wt a.cm a.gd
  refine ⟨z.gd,z.wt,z.cm.up (by omega),z.mg.trans a.mg,Rat.le_trans a.le z.le,z.ln.trans a.ln,λi=>⟨λd hd=>((z.sz i).1 d hd).trans ((a.sz i).1 d hd),(z.sz i).2.trans (a.sz i).2⟩,?_⟩
  rcases z.fb with e|e
  ·rw [e];rcases a.fb with y|y
   ·exact .inl y
   ·exact .inr (y.mono (by omega))
  ·exact .inr (e.mono (by omega))
theorem gd_start {R:Rat × Rat} {gs:List Bq} (h:GdP R gs):GdT R gs 0:=⟨λb hb=>by rw [at_nought]; exact h.al b hb,by rw [ats_nought]; exact h.ap⟩
theorem iteTz {c:Bool} {A B:Prop} (h:c=true) (q:A):if c=true then A else B:=by
 subst h;exact iteT q
theorem cm_fb {B:Nat} {R:Rat × Rat} {gs:List Bq} (cm:CmP B R gs) {b:Bq} (hb:b∈gs):FB B b.x/\FB B b.y/\FB B b.w/\FB B b.h/\FB B b.u/\FB B b.v:=by
 obtain ⟨D,d1,d2,_,_,al⟩:=cm;obtain ⟨a1,a2,a3,a4,a5,a6⟩:=al b hb;exact ⟨a1.fb d1 d2,a2.fb d1 d2,a3.fb d1 d2,a4.fb d1 d2,a5.fb d1 d2,a6.fb d1 d2⟩
theorem fb_nought:FB 1 (0:Rat):=⟨by show Bd 1 0; unfold Bd; decide,by show Bd 1 1; unfold Bd; decide⟩
theorem AllP.last {R:Rat × Rat} {gs es:List Bq} {B:Nat} {last:Rat} (h:AllP R gs 0 B es last):FB (B+2) last:=by
 rcases h.fb with e|e
 ·rw [e];exact fb_nought.mono (by omega)
 ·exact e
theorem AllP.at {R:Rat × Rat} {gs es:List Bq} {B:Nat} {last:Rat} (h:AllP R gs 0 B es last):∀ b∈es.map (atB last),FB (3 * B+3) b.x/\FB (3 * B+3) b.y/\FB B b.u/\FB B b.v:=by
 intro b hb;obtain ⟨c,hc,rfl⟩:=List.mem_map.mp hb;obtain ⟨a1,a2,a3,a4,a5,a6⟩:=cm_fb h.cm hc;exact ⟨(a1.add (a5.mul h.last)).mono (by omega),(a2.add (a6.mul h.last)).mono (by omega),a5,a6⟩
theorem bqs_fb {K:Frag} {H:Hp} {N M:Nat}:∀ {vs:List V} {bs:List Bq},Al2 (BqH K N H) vs bs->(∀ b∈bs,FB M b.x/\FB M b.y)->Al2 (BqH K M H) vs bs
 |[],[],_,_=>trivial
 |_::_,b::_,z,h=>by
  obtain ⟨⟨p,a0,a1,a2,a3,a4,a5,e,h1,g,⟨d0,d1,d⟩,w⟩,r⟩:=z;exact ⟨⟨p,a0,a1,a2,a3,a4,a5,e,h1,g,⟨(h b (List.mem_cons_self ..)).1,(h b (List.mem_cons_self ..)).2,d⟩,w⟩,bqs_fb r λc hc=>h c (List.mem_cons_of_mem _ hc)⟩
 |[],_::_,z,_=>z.elim
 |_::_,[],z,_=>z.elim
theorem j2 {k:Int} {l:List Pr}:k∈numP l↔0<=k/\∃ q∈l,k=q.2.1\/k=q.2.2:=by
 unfold numP;rw [List.mem_filter,List.mem_append,List.mem_map,List.mem_map,decide_eq_true_eq];constructor
 ·rintro ⟨⟨q,hq,e⟩|⟨q,hq,e⟩,h⟩
  ·exact ⟨h,q,hq,.inl e.symm⟩
  ·exact ⟨h,q,hq,.inr e.symm⟩
 ·rintro ⟨h,q,hq,e|e⟩
  ·exact ⟨.inl ⟨q,hq,e.symm⟩,h⟩
  ·exact ⟨.inr ⟨q,hq,e.symm⟩,h⟩
theorem J5 {q:Pr} {l:List Pr}:(numP (q::l)).Perm (numP [q]++numP l):=by
 unfold numP;rw [<- List.filter_append];refine List.Perm.filter _ ?_;simp only [List.map_cons,List.map_nil,List.cons_append,List.nil_append];refine List.Perm.cons _ ?_;exact List.perm_middle
theorem num_one {q:Pr} {k:Int}:k∈numP [q]↔0<=k/\(k=q.2.1\/k=q.2.2):=by
 rw [j2];simp
section
variable {R:Rat × Rat} {gs:List Bq}
theorem nums_cons {q:Pr} {l:List Pr} (h:(numP (q::l)).Nodup):(numP l).Nodup/\∀ k:Int,0<=k->(k=q.2.1\/k=q.2.2)->k∉numP l:=by
 have z:=J5.nodup_iff.mp h;rw [List.nodup_append] at z;exact ⟨z.2.1,λk k0 e m=>z.2.2 k (num_one.mpr ⟨k0,e⟩) k m rfl⟩
theorem prt_bx {q:Pr} (h:InP gs.length q) (i:Nat):bxAt (prtP R gs q) i=if (i:Int)=q.2.1 then oneP R gs q else if (i:Int)=q.2.2 then othP R gs q else bxAt gs i:=by
 have z:=Yu (R:=R) h 0 (i:Int);rw [yP,yP] at z;rw [z];by_cases c:(i:Int)=q.2.1
 ·rw [if_pos ⟨by omega,c⟩,if_pos c]
 ·rw [if_neg (λy=>c y.2),if_neg c]
  by_cases d:(i:Int)=q.2.2
  ·rw [if_pos ⟨by omega,d⟩,if_pos d]
  ·rw [if_neg (λy=>d y.2),if_neg d]
theorem box_same {gs':List Bq} {d:Nat} {i:Int} (h:0<=i->bxAt gs' i.toNat=bxAt gs i.toNat):boxB R gs' d i=boxB R gs d i:=by
 unfold boxB;by_cases c:0<=i
 ·rw [if_pos c,if_pos c,h c]
 ·rw [if_neg c,if_neg c]
theorem YM:∀ (l:List Pr) {gs:List Bq},(∀ q∈l,InP gs.length q)->(numP l).Nodup->
  (∀ q∈l,∀ i:Nat,(i:Int)=q.2.1->bxAt (l.foldl (prtP R) gs) i=oneP R gs q)/\(∀ q∈l,∀ i:Nat,(i:Int)=q.2.2->bxAt (l.foldl (prtP R) gs) i=othP R gs q)/\(∀ i:Nat,(i:Int)∉numP l->bxAt (l.foldl (prtP R) gs) i=bxAt gs i)
 |[],_,_,_=>⟨λq h=>absurd h (List.not_mem_nil),λq h=>absurd h (List.not_mem_nil),λ_ _=>rfl⟩
 |q::l,gs,hin,nd=>by
  obtain ⟨nl,nq⟩:=nums_cons nd;have hq:=hin q (List.mem_cons_self ..);have ln:(prtP R gs q).length=gs.length:=yT;obtain ⟨f1,f2,f3⟩:=YM l (gs:=prtP R gs q) (λr hr=>by rw [ln]; exact hin r (List.mem_cons_of_mem _ hr)) nl
  have same:∀ r∈l,∀ (d:Nat) (k:Int),(k=r.2.1\/k=r.2.2)->boxB R (prtP R gs q) d k=boxB R gs d k:=λr hr d k hk=>box_same λk0=>by
   have km:k∈numP l:=j2.mpr ⟨k0,r,hr,hk⟩;rw [prt_bx hq,if_neg (λe=>nq k k0 (.inl (by omega)) km),if_neg (λe=>nq k k0 (.inr (by omega)) km)]
  have one:∀ r∈l,oneP R (prtP R gs q) r=oneP R gs r:=λr hr=>by
   unfold oneP;rw [same r hr r.1 r.2.1 (.inl rfl),same r hr r.1 r.2.2 (.inr rfl)]
  have oth:∀ r∈l,othP R (prtP R gs q) r=othP R gs r:=λr hr=>by
   unfold othP;rw [same r hr r.1 r.2.1 (.inl rfl),same r hr r.1 r.2.2 (.inr rfl)]
  have ne:q.2.1≠q.2.2:=hq.2.2.2.1;refine ⟨λr hr i e=>?_,λr hr i e=>?_,λi hi=>?_⟩
  ·show bxAt (l.foldl (prtP R) (prtP R gs q)) i=_;rcases List.mem_cons.mp hr with c|c
   ·subst c;rw [f3 i (nq _ (by omega) (.inl e)),prt_bx hq,if_pos e]
   ·rw [f1 r c i e,one r c]
  ·show bxAt (l.foldl (prtP R) (prtP R gs q)) i=_;rcases List.mem_cons.mp hr with c|c
   ·subst c;rw [f3 i (nq _ (by omega) (.inr e)),prt_bx hq,if_neg (λz=>ne (z.symm.trans e)),if_pos e]
   ·rw [f2 r c i e,oth r c]
  ·show bxAt (l.foldl (prtP R) (prtP R gs q)) i=_
   have a:(i:Int)∉numP l:=λz=>hi (by
    obtain ⟨k0,r,hr,e⟩:=j2.mp z
    exact j2.mpr ⟨k0,r,List.mem_cons_of_mem _ hr,e⟩)
   have b:∀ z,((i:Int)=q.2.1\/(i:Int)=q.2.2)->z:=λz e=>absurd (j2.mpr ⟨by omega,q,List.mem_cons_self ..,e⟩) hi
   rw [f3 i a,prt_bx hq,if_neg (λe=>b _ (.inl e)),if_neg (λe=>b _ (.inr e))]
theorem JN {now:Rat} (h:crwP R gs now=false):(numP (dueP R gs now)).Nodup/\hemP R (gs.map (atB ((comP R gs now).getD 0))) (dueP R gs now)=false/\cnrP (gs.map (atB ((comP R gs now).getD 0))) (dueP R gs now)=false/\cloP R gs (comP R gs now)=false:=by
 unfold crwP at h;rw [Bool.or_eq_false_iff,Bool.or_eq_false_iff,Bool.or_eq_false_iff] at h;refine ⟨?_,h.2⟩;have z:=h.1;unfold twoP at z;exact Decidable.not_not.mp (of_decide_eq_false z)
theorem ptd_less {a b:Rat × Rat × Option Int} (wa:1<=a.2.2.getD 1) (wb:∀ u,b.2.2=some u->1<=u) (w0:b.2.2=none->b.2.1=0) (h:b.2.1 < a.2.1):(ptd a b).2 < a.2.1:=by
 cases e:b.2.2 with
 |none=>
  rw [ZR e];have:=w0 e;grind
 |some u=>
  rw [ZK e];have u1:=wb u e;generalize a.2.2.getD 1=m at wa;have c:(0:Rat) < (m:Rat)+(u:Rat):=by
   have k:((0:Int):Rat) < ((m+u:Int):Rat):=Rat.intCast_lt_intCast.mpr (by omega)
   rw [Rat.intCast_add] at k;exact k
  have u0:(0:Rat) < (u:Rat):=by
   have k:((0:Int):Rat) < (u:Rat):=Rat.intCast_lt_intCast.mpr (by omega)
   exact k
  unfold mixQ;rw [Rat.divInt_eq_div,Rat.divInt_eq_div,Rat.intCast_sub,Rat.intCast_add,Rat.intCast_mul];have two:((2:Int):Rat)=2:=rfl;rw [two];refine Zy c ?_;have p:=YQ u0 (show 0 < a.2.1 - b.2.1 by grind)
  have n:(m:Rat)+(u:Rat)≠0:=by grind
  have e:∀ x y:Rat,((m:Rat)+(u:Rat)) * (x - (x * (((m:Rat) - (u:Rat)) / ((m:Rat)+(u:Rat)))+y * (2 * (u:Rat) / ((m:Rat)+(u:Rat)))))=2 * ((u:Rat) * (x - y)):=λx y=>by grind
  rw [e];grind
theorem ptd_more {a b:Rat × Rat × Option Int} (wa:1<=a.2.2.getD 1) (wb:∀ u,b.2.2=some u->1<=u) (w0:b.2.2=none->b.2.1=0) (h:a.2.1 < b.2.1):a.2.1 < (ptd a b).2:=by
 cases e:b.2.2 with
 |none=>
  rw [ZR e];have:=w0 e;grind
 |some u=>
  rw [ZK e];have u1:=wb u e;generalize a.2.2.getD 1=m at wa;have c:(0:Rat) < (m:Rat)+(u:Rat):=by
   have k:((0:Int):Rat) < ((m+u:Int):Rat):=Rat.intCast_lt_intCast.mpr (by omega)
   rw [Rat.intCast_add] at k;exact k
  have u0:(0:Rat) < (u:Rat):=by
   have k:((0:Int):Rat) < (u:Rat):=Rat.intCast_lt_intCast.mpr (by omega)
   exact k
  unfold mixQ;rw [Rat.divInt_eq_div,Rat.divInt_eq_div,Rat.intCast_sub,Rat.intCast_add,Rat.intCast_mul];have two:((2:Int):Rat)=2:=rfl;rw [two];refine Zy c ?_;have p:=YQ u0 (show 0 < b.2.1 - a.2.1 by grind)
  have n:(m:Rat)+(u:Rat)≠0:=by grind
  have e:∀ x y:Rat,((m:Rat)+(u:Rat)) * ((x * (((m:Rat) - (u:Rat)) / ((m:Rat)+(u:Rat)))+y * (2 * (u:Rat) / ((m:Rat)+(u:Rat)))) - x)=2 * ((u:Rat) * (y - x)):=λx y=>by grind
  rw [e];grind
end
section
variable {R:Rat × Rat} {gs:List Bq} {now T:Rat}
theorem due_is {q:Pr} (h:comP R gs now=some T):q∈dueP R gs now↔InP gs.length q/\jntP R gs q=some T/\metP R gs T q=true:=by
 unfold dueP;rw [List.mem_filter,zh,h];unfold cmgP;simp
theorem box_map {t:Rat} {d:Nat} {i:Int} (hd:d<=1) (hi:0<=i->i.toNat < gs.length):boxB R (gs.map (atB t)) d i=atB t (boxB R gs d i):=by
 unfold boxB;by_cases c:0<=i
 ·rw [if_pos c,if_pos c,jd (hi c)]
 ·rw [if_neg c,if_neg c];have z:(yh R d i).u=0/\(yh R d i).v=0:=by
   unfold yh;split<;>split<;>exact ⟨rfl,rfl⟩
  unfold atB;rw [z.1,z.2,Rat.zero_mul,Rat.add_zero,Rat.add_zero];generalize yh R d i=b at z;obtain ⟨x,y,w,h,u,v,m⟩:=b;obtain ⟨rfl,rfl⟩:=z;rfl
theorem J8 {gs':List Bq} (P:PosL T gs gs') (d:Nat) (i:Int):PosE T (boxB R gs d i) (boxB R gs' d i):=by
 unfold boxB;by_cases c:0<=i
 ·rw [if_pos c,if_pos c]; exact P.2 _
 ·rw [if_neg c,if_neg c]; exact PosE.refl T _
theorem met_pos {gs':List Bq} (P:PosL T gs gs') {p:Pr} (hd:p.1<=1):metP R gs' T p=metP R gs T p:=by
 unfold metP hicB;have a:=(J8 (R:=R) P p.1 p.2.1).at (d:=1 - p.1) (by omega)
 have b:=(J8 (R:=R) P p.1 p.2.2).at (d:=1 - p.1) (by omega)
 rw [a.1,a.2.1,b.1,b.2.1]
theorem jnt_close {p:Pr} {t:Rat} (h:jntP R gs p=some t):(boxB R gs p.1 p.2.2).sp p.1 < (boxB R gs p.1 p.2.1).sp p.1:=by
 unfold jntP at h;by_cases c:(boxB R gs p.1 p.2.1).sp p.1<=(boxB R gs p.1 p.2.2).sp p.1
 ·rw [if_pos c] at h;cases h
 ·exact Rat.not_le.mp c
theorem jnt_of_tch {p:Pr} (c:(boxB R gs p.1 p.2.2).sp p.1 < (boxB R gs p.1 p.2.1).sp p.1) (t:TchT R gs p T):jntP R gs p=some T:=by
 unfold jntP;rw [if_neg (Rat.not_le.mpr c)];unfold TchT at t;congr 1;generalize (boxB R gs p.1 p.2.1).sp p.1=a at *;generalize (boxB R gs p.1 p.2.2).sp p.1=b at *;generalize (boxB R gs p.1 p.2.1).far p.1=x at *;generalize (boxB R gs p.1 p.2.2).pl p.1=y at *;have n:a - b≠0:=by grind
 have e:y - x=T * (a - b):=by grind
 rw [e];grind
theorem ptd_part {a b:Rat × Rat × Option Int} (wa:1<=a.2.2.getD 1) (wb:1<=b.2.2.getD 1) (h:b.2.1 < a.2.1) (u w:Int) (ea:a.2.2=some u) (eb:b.2.2=some w):(ptd a b).2 < (ptd b a).2:=by
 rw [ZK eb,ZK ea,ea,eb];rw [ea] at wa;rw [eb] at wb;replace wa:1<=u:=wa;replace wb:1<=w:=wb;show mixQ a.2.1 b.2.1 u w < mixQ b.2.1 a.2.1 w u;have c:((u+w:Int):Rat)≠0:=by
  intro z;have:u+w=0:=Rat.intCast_inj.mp z;omega
 rw [Rat.intCast_add] at c;rw [y7,y7];have c':(w:Rat)+(u:Rat)≠0:=by grind
 have e:∀ x y:Rat,y * (((w:Rat) - u) / (w+u))+x * ((2 * u) / (w+u)) - (x * (((u:Rat) - w) / (u+w))+y * ((2 * w) / (u+w)))=x - y:=λx y=>by
  have e1:(w:Rat)+u=u+w:=by grind
  rw [e1];grind
 have:=e a.2.1 b.2.1;grind
theorem zAH {T':Rat} (hw:WtB gs) (h:comP R gs now=some T) (c:crwP R gs now=false) (h':comP R (onP R gs now) T=some T'):T < T':=by
 obtain ⟨nd,hem,cnr,clo⟩:=JN c;rw [h] at hem cnr clo;replace hem:hemP R (gs.map (atB T)) (dueP R gs now)=false:=hem;replace cnr:cnrP (gs.map (atB T)) (dueP R gs now)=false:=cnr;have P:=on_keep (R:=R) h hw;have hin:∀ q∈dueP R gs now,InP gs.length q:=λq hq=>(z7 q hq)
 obtain ⟨f1,f2,f3⟩:=YM (R:=R) (dueP R gs now) hin nd;replace f1:∀ q∈dueP R gs now,∀ i:Nat,(i:Int)=q.2.1->bxAt (onP R gs now) i=oneP R gs q:=f1;replace f2:∀ q∈dueP R gs now,∀ i:Nat,(i:Int)=q.2.2->bxAt (onP R gs now) i=othP R gs q:=f2;replace f3:∀ i:Nat,(i:Int)∉numP (dueP R gs now)->bxAt (onP R gs now) i=bxAt gs i:=f3;obtain ⟨le,p,hp,j,m⟩:=Z8 h';rw [P.1] at hp;by_cases lt:T < T'
 ·exact lt
 exfalso
 have eT:T'=T:=by grind
 subst eT;have d1:p.1<=1:=hp.1;have ne:p.2.1≠p.2.2:=hp.2.2.2.1;have fast:=jnt_close j;have pe:∀ d x,PosE T' (boxB R gs d x) (boxB R (onP R gs now) d x):=λd x=>J8 P d x
 have tch:∀ q:Pr,q.1<=1->jntP R (onP R gs now) q=some T'->TchT R gs q T':=λq hq jq=>by
  have t:=jnt_tch jq;unfold TchT at t ⊢;rw [<- (pe q.1 q.2.1).far hq,<- ((pe q.1 q.2.2).1 q.1 hq).1];exact t
 have tp:=tch p d1 j;have wt:∀ q∈dueP R gs now,∀ x:Int,(x=q.2.1\/x=q.2.2)->∀ d,1<=(boxB R gs d x).m.getD 1/\(∀ u,(boxB R gs d x).m=some u->1<=u)/\((boxB R gs d x).m=none->∀ e,(boxB R gs d x).sp e=0):=λq hq x hx d=>Jy hw (hin q hq) hx d
 have one:∀ q∈dueP R gs now,0<=q.2.1->∀ e,e<=1->(boxB R (onP R gs now) e q.2.1).sp e=if e=q.1 then (ptd (farG (boxB R gs q.1 q.2.1) q.1) (zm (boxB R gs q.1 q.2.2) q.1)).2 else (boxB R gs e q.2.1).sp e:=λq hq h0 e he=>by
  have z:=f1 q hq q.2.1.toNat (by omega)
  have y:boxB R (onP R gs now) e q.2.1=oneP R gs q:=by
   unfold boxB;rw [if_pos h0,z]
  rw [y];unfold oneP Zk;rw [jW (hin q hq).1 he];by_cases ce:e=q.1
  ·rw [if_pos ce,if_pos ce]
  ·rw [if_neg ce,if_neg ce];unfold boxB;rw [if_pos h0,if_pos h0]
 have oth:∀ q∈dueP R gs now,0<=q.2.2->∀ e,e<=1->(boxB R (onP R gs now) e q.2.2).sp e=if e=q.1 then (ptd (zm (boxB R gs q.1 q.2.2) q.1) (farG (boxB R gs q.1 q.2.1) q.1)).2 else (boxB R gs e q.2.2).sp e:=λq hq h0 e he=>by
  have z:=f2 q hq q.2.2.toNat (by omega)
  have y:boxB R (onP R gs now) e q.2.2=othP R gs q:=by
   unfold boxB;rw [if_pos h0,z]
  rw [y];unfold othP Zg;rw [jW (hin q hq).1 he];by_cases ce:e=q.1
  ·rw [if_pos ce,if_pos ce]
  ·rw [if_neg ce,if_neg ce];unfold boxB;rw [if_pos h0,if_pos h0]
 have els:∀ x:Int,x∉numP (dueP R gs now)->∀ e,boxB R (onP R gs now) e x=boxB R gs e x:=λx hx e=>box_same λx0=>f3 _ (by rw [show ((x.toNat:Nat):Int)=x by omega]; exact hx)
 have close:∀ q∈dueP R gs now,(boxB R gs q.1 q.2.2).sp q.1 < (boxB R gs q.1 q.2.1).sp q.1:=λq hq=>jnt_close ((due_is h).mp hq).2.1
 have inr:∀ x:Int,(x=p.2.1\/x=p.2.2)->0<=x->x.toNat < gs.length:=λx hx x0=>by
  rcases hx with e|e
  ·rw [e] at x0 ⊢; exact hp.l1 x0
  ·rw [e] at x0 ⊢; exact hp.l2 x0
 have tb:∀ (d:Nat) (a b:Int),d<=1->TchT R gs (d,a,b) T'->tchB (atB T' (boxB R gs d a)) (atB T' (boxB R gs d b)) d=true:=λd a b hd t=>by
  unfold tchB;rw [Yb,Jc];exact decide_eq_true t
 by_cases mc:corP R (onP R gs now) p=true
 ·unfold corP at mc;rw [Bool.and_eq_true,Bool.and_eq_true,Bool.or_eq_true,decide_eq_true_eq,decide_eq_true_eq,decide_eq_true_eq,decide_eq_true_eq] at mc;obtain ⟨i0,k0,mc⟩:=mc;by_cases busy:p.2.1∈numP (dueP R gs now)\/p.2.2∈numP (dueP R gs now)
  ·
   have side:tchB (atB T' (bxAt gs p.2.1.toNat)) (atB T' (bxAt gs p.2.2.toNat)) (1 - p.1)=true\/tchB (atB T' (bxAt gs p.2.2.toNat)) (atB T' (bxAt gs p.2.1.toNat)) (1 - p.1)=true:=by
    have bx:∀ d x,0<=x->boxB R gs d x=bxAt gs x.toNat:=λd x x0=>by unfold boxB; rw [if_pos x0]
    rcases mc with e|e
    ·have z:=tb (1 - p.1) p.2.1 p.2.2 (by omega) (tch (1 - p.1,p.2.1,p.2.2) (by show 1 - p.1<=1; omega) (e▸j))
     rw [bx _ _ i0,bx _ _ k0] at z;exact .inl z
    ·have z:=tb (1 - p.1) p.2.2 p.2.1 (by omega) (tch (1 - p.1,p.2.2,p.2.1) (by show 1 - p.1<=1; omega) (e▸j))
     rw [bx _ _ i0,bx _ _ k0] at z;exact .inr z
   have front:tchB (atB T' (bxAt gs p.2.1.toNat)) (atB T' (bxAt gs p.2.2.toNat)) p.1=true:=by
    have z:=tb p.1 p.2.1 p.2.2 d1 tp;unfold boxB at z;rw [if_pos i0,if_pos k0] at z;exact z
   have crn:∀ a b:Bq,(tchB a b p.1=true)->(tchB a b (1 - p.1)=true\/tchB b a (1 - p.1)=true)->crnB a b=true/\crnB b a=true:=λa b t s=>by
    unfold crnB;rcases d01 d1 with e|e
    ·rw [e] at t s;replace s:tchB a b 1=true\/tchB b a 1=true:=s;rcases s with s|s<;>rw [t,s]<;>simp
    ·rw [e] at t s;replace s:tchB a b 0=true\/tchB b a 0=true:=s;rcases s with s|s<;>rw [t,s]<;>simp
   obtain ⟨cA,cB⟩:=crn _ _ front side;have li:=inr _ (.inl rfl) i0;have lk:=inr _ (.inr rfl) k0;have no:cnrP (gs.map (atB T')) (dueP R gs now)=true:=by
    unfold cnrP;rw [List.length_map];by_cases o:p.2.1.toNat < p.2.2.toNat
    ·refine List.any_eq_true.mpr ⟨p.2.2.toNat,List.mem_range.mpr lk,List.any_eq_true.mpr ⟨p.2.1.toNat,List.mem_range.mpr o,?_⟩⟩;rw [jd li,jd lk,cA,Bool.and_true,Bool.or_eq_true,decide_eq_true_eq,decide_eq_true_eq,show ((p.2.1.toNat:Nat):Int)=p.2.1 by omega,show ((p.2.2.toNat:Nat):Int)=p.2.2 by omega]
     exact busy
    ·refine List.any_eq_true.mpr ⟨p.2.1.toNat,List.mem_range.mpr li,List.any_eq_true.mpr ⟨p.2.2.toNat,List.mem_range.mpr (by omega),?_⟩⟩
     rw [jd li,jd lk,cB,Bool.and_true,Bool.or_eq_true,decide_eq_true_eq,decide_eq_true_eq,show ((p.2.1.toNat:Nat):Int)=p.2.1 by omega,show ((p.2.2.toNat:Nat):Int)=p.2.2 by omega]
     exact busy.symm
   rw [no] at cnr;cases cnr
  ·
   have nb:=not_or.mp busy;have jeq:∀ e:Nat,jntP R (onP R gs now) (e,p.2.1,p.2.2)=jntP R gs (e,p.2.1,p.2.2)/\jntP R (onP R gs now) (e,p.2.2,p.2.1)=jntP R gs (e,p.2.2,p.2.1):=λe=>by
    unfold jntP;constructor
    ·show (if (boxB R (onP R gs now) e p.2.1).sp e<=_ then _ else _)=_
     rw [els _ nb.1 e,els _ nb.2 e]
    ·show (if (boxB R (onP R gs now) e p.2.2).sp e<=_ then _ else _)=_
     rw [els _ nb.1 e,els _ nb.2 e]
   have jp:jntP R gs p=some T':=(jeq p.1).1▸j;have no:cloP R gs (some T')=true:=by
    unfold cloP;refine List.any_eq_true.mpr ⟨p,zh.mpr hp,?_⟩;unfold cmgP corP;rw [jp,decide_eq_true i0,decide_eq_true k0];rw [(jeq (1 - p.1)).1,(jeq (1 - p.1)).2,j] at mc;rcases mc with e|e
    ·rw [<- e]; simp
    ·rw [<- e]; simp
   rw [no] at clo;cases clo
 ·have mt:metP R (onP R gs now) T' p=true:=by
   rw [Bool.or_eq_true] at m;rcases m with z|z
   ·exact z
   ·exact absurd z mc
  rw [met_pos P d1] at mt;have bes:besB (boxB R (gs.map (atB T')) p.1 p.2.1) (boxB R (gs.map (atB T')) p.1 p.2.2) p.1=true:=by
   rw [box_map d1 (inr _ (.inl rfl)),box_map d1 (inr _ (.inr rfl))];unfold besB;rw [tb p.1 p.2.1 p.2.2 d1 tp];exact mt
  have nohem:∀ q∈dueP R gs now,q.1=p.1->¬ (q.2.1=p.2.2\/q.2.2=p.2.1):=λq hq e z=>by
   have no:hemP R (gs.map (atB T')) (dueP R gs now)=true:=by
    unfold hemP;rw [List.length_map];refine List.any_eq_true.mpr ⟨p,zh.mpr hp,?_⟩;rw [bes,Bool.true_and];refine List.any_eq_true.mpr ⟨q,hq,?_⟩;rw [decide_eq_true e,Bool.true_and,Bool.or_eq_true,decide_eq_true_eq,decide_eq_true_eq];exact z
   rw [no] at hem;cases hem
  have si:(boxB R (onP R gs now) p.1 p.2.1).sp p.1<=(boxB R gs p.1 p.2.1).sp p.1:=by
   by_cases b:p.2.1∈numP (dueP R gs now)
   ·obtain ⟨i0,q,hq,e⟩:=j2.mp b;by_cases dq:q.1=p.1
    ·have e1:p.2.1=q.2.1:=by
      rcases e with e|e
      ·exact e
      ·exact absurd (.inr e.symm) (nohem q hq dq)
     have z:=one q hq (e1▸i0) p.1 d1;rw [if_pos dq.symm,<- e1,<- dq] at z;rw [<- dq,z];have w1:=wt q hq q.2.1 (.inl rfl) q.1;have w2:=wt q hq q.2.2 (.inr rfl) q.1;have l:=ptd_less (a:=farG (boxB R gs q.1 q.2.1) q.1) (b:=zm (boxB R gs q.1 q.2.2) q.1) w1.1 w2.2.1 (λn=>w2.2.2 n q.1) (close q hq)
     rw [<- e1] at l;exact Rat.le_of_lt l
    ·rcases e with e|e
     ·have z:=one q hq (e▸i0) p.1 d1;rw [if_neg (λy=>dq y.symm),<- e] at z
      rw [z];exact Rat.le_refl
     ·have z:=oth q hq (e▸i0) p.1 d1;rw [if_neg (λy=>dq y.symm),<- e] at z
      rw [z];exact Rat.le_refl
   ·rw [els _ b];exact Rat.le_refl
  have sk:(boxB R gs p.1 p.2.2).sp p.1<=(boxB R (onP R gs now) p.1 p.2.2).sp p.1:=by
   by_cases b:p.2.2∈numP (dueP R gs now)
   ·obtain ⟨i0,q,hq,e⟩:=j2.mp b;by_cases dq:q.1=p.1
    ·have e1:p.2.2=q.2.2:=by
      rcases e with e|e
      ·exact absurd (.inl e.symm) (nohem q hq dq)
      ·exact e
     have z:=oth q hq (e1▸i0) p.1 d1;rw [if_pos dq.symm,<- e1,<- dq] at z;rw [<- dq,z];have w1:=wt q hq q.2.1 (.inl rfl) q.1;have w2:=wt q hq q.2.2 (.inr rfl) q.1;have l:=ptd_more (a:=zm (boxB R gs q.1 q.2.2) q.1) (b:=farG (boxB R gs q.1 q.2.1) q.1) w2.1 w1.2.1 (λn=>w1.2.2 n q.1) (close q hq)
     rw [<- e1] at l;exact Rat.le_of_lt l
    ·rcases e with e|e
     ·have z:=one q hq (e▸i0) p.1 d1;rw [if_neg (λy=>dq y.symm),<- e] at z
      rw [z];exact Rat.le_refl
     ·have z:=oth q hq (e▸i0) p.1 d1;rw [if_neg (λy=>dq y.symm),<- e] at z
      rw [z];exact Rat.le_refl
   ·rw [els _ b];exact Rat.le_refl
  have pd:p∈dueP R gs now:=(due_is h).mpr ⟨hp,jnt_of_tch (by grind) tp,mt⟩
  have w1:=wt p pd p.2.1 (.inl rfl) p.1;have w2:=wt p pd p.2.2 (.inr rfl) p.1;have cl:=close p pd;by_cases i0:0<=p.2.1
  ·have zi:=one p pd i0 p.1 d1;rw [if_pos rfl] at zi;by_cases k0:0<=p.2.2
   ·have zk:=oth p pd k0 p.1 d1;rw [if_pos rfl] at zk;rw [zi,zk] at fast;obtain ⟨u,eu,_⟩:=jP (R:=R) (d:=p.1) hw i0 (inr _ (.inl rfl) i0);obtain ⟨v,ev,_⟩:=jP (R:=R) (d:=p.1) hw k0 (inr _ (.inr rfl) k0);have l:=ptd_part (a:=farG (boxB R gs p.1 p.2.1) p.1) (b:=zm (boxB R gs p.1 p.2.2) p.1) w1.1 w2.1 cl u v eu ev;grind
   ·have wk:(boxB R gs p.1 p.2.2).m=none:=YZ k0;have wk':(boxB R (onP R gs now) p.1 p.2.2).sp p.1=0:=wall_sp k0 _;have s0:=w2.2.2 wk p.1;rw [zi,wk',ZR (a:=farG (boxB R gs p.1 p.2.1) p.1) (b:=zm (boxB R gs p.1 p.2.2) p.1) wk] at fast;replace fast:0 < -(boxB R gs p.1 p.2.1).sp p.1:=fast;grind
  ·have k0:0<=p.2.2:=by
    rcases hp.2.2.2.2 with z|z
    ·exact absurd z i0
    ·exact z
   have zk:=oth p pd k0 p.1 d1;rw [if_pos rfl] at zk;have wi:(boxB R gs p.1 p.2.1).m=none:=YZ i0;have wi':(boxB R (onP R gs now) p.1 p.2.1).sp p.1=0:=wall_sp i0 _;have s0:=w1.2.2 wi p.1;rw [zk,wi',ZR (a:=zm (boxB R gs p.1 p.2.2) p.1) (b:=farG (boxB R gs p.1 p.2.1) p.1) wi] at fast;replace fast:-(boxB R gs p.1 p.2.2).sp p.1 < 0:=fast;grind
end
noncomputable def KOk (n:Nat) (lt:Nat->Nat->Bool) {α:Type}:KasT α->(α->Prop)->Prop
 |.ret a,Q=>Q a
 |.ask i j k,Q=>i < n/\j < n/\KOk n lt (k (lt i j)) Q
section
variable {n:Nat} {lt:Nat->Nat->Bool} {α β:Type}
theorem KOk.bind {f:α->KasT β} {Q:β->Prop}:∀ (t:KasT α),KOk n lt t (λa=>KOk n lt (f a) Q)->KOk n lt (t.bind f) Q
 |.ret _,h=>h
 |.ask i j k,h=>⟨h.1,h.2.1,KOk.bind _ h.2.2⟩
noncomputable def yV (n:Nat) (p:Array Nat):Prop:=p.toList.Perm (List.range n)
theorem yV.size {p:Array Nat} (h:yV n p):p.size=n:=by
 have:=h.length_eq;rw [List.length_range] at this;rw [<- Array.length_toList];exact this
theorem yV.at0 {p:Array Nat} (h:yV n p) {i:Nat} (hi:i < n):p.getD i 0 < n:=by
 have hs:=h.size;have:p.getD i 0=p[i]'(by omega):=by
  rw [Array.getD_eq_getD_getElem?,Array.getElem?_eq_getElem (by omega)]
  rfl
 rw [this];have m:p[i]'(by omega)∈p.toList:=by
  rw [<- Array.getElem_toList];exact List.getElem_mem _
 exact List.mem_range.mp (h.mem_iff.mp m)
theorem yV.of {p q:Array Nat} (h:yV n p) (e:q.Perm p):yV n q:=e.toList.trans h
theorem ZP {p:Array Nat} (h:yV n p) (i j:Nat):yV n (kas_rev p i j):=h.of (mirror_perm _ _ _ _)
theorem ZL {p:Array Nat} {i j k:Nat} (hj:j<=p.size):(kas_rev p i j).getD k 0=p.getD (if i<=k/\k < j then i+j - 1 - k else k) 0:=by
 rw [Array.getD_eq_getD_getElem?,Array.getD_eq_getD_getElem?];unfold kas_rev;rw [getElem?_mirror_all hj];split<;>rfl
theorem getD_bub {p:Array Nat} {k d i:Nat} (hk:k < p.size) (hd:d<=k):(bubble p k d).getD i 0=if i=k - d then p.getD k 0 else if k - d < i/\i<=k then p.getD (i - 1) 0 else p.getD i 0:=by
 simp only [Array.getD_eq_getD_getElem?];rw [getElem?_bubble hk d hd]
 repeat' split
 all_goals rfl
noncomputable def SrtA (lt:Nat->Nat->Bool) (p:Array Nat) (m:Nat):Prop:=∀ i j,i<=j->j < m->lt (p.getD j 0) (p.getD i 0)=false
noncomputable def DscA (lt:Nat->Nat->Bool) (p:Array Nat) (m:Nat):Prop:=∀ i j,i<=j->j < m->lt (p.getD i 0) (p.getD j 0)=false
noncomputable def EqlA (lt:Nat->Nat->Bool) (p:Array Nat) (a m:Nat):Prop:=∀ i j,a<=i->a<=j->i < m->j < m->lt (p.getD i 0) (p.getD j 0)=false
structure Ordr (lt:Nat->Nat->Bool):Prop where
 as:∀ i j,lt i j=true->lt j i=false
 tr:∀ i j k,lt j i=false->lt k j=false->lt k i=false
variable (O:Ordr lt)
include O
theorem Ordr.rf (i:Nat):lt i i=false:=by
 cases e:lt i i with
 |false=>rfl
 |true=>rw [<- e]; exact O.as i i e
theorem srtA_snoc {p:Array Nat} {m:Nat} (h1:1<=m) (h:SrtA lt p m) (e:lt (p.getD m 0) (p.getD (m - 1) 0)=false):SrtA lt p (m+1):=λi j ij jm=>by
 by_cases c:j=m
 ·subst c;by_cases d:i=j
  ·subst d; exact O.rf _
  ·exact O.tr _ _ _ (h i (j - 1) (by omega) (by omega)) e
 ·exact h i j ij (by omega)
theorem YL {p:Array Nat} {m:Nat} (h1:1<=m) (h:DscA lt p m) (e:lt (p.getD (m - 1) 0) (p.getD m 0)=false):DscA lt p (m+1):=λi j ij jm=>by
 by_cases c:j=m
 ·subst c;by_cases d:i=j
  ·subst d; exact O.rf _
  ·exact O.tr _ _ _ e (h i (j - 1) (by omega) (by omega))
 ·exact h i j ij (by omega)
theorem asc_ok {p:Array Nat} (hp:yV n p):∀ (f m:Nat) {Q:Nat->Prop},1<=m->m+f<=n->SrtA lt p m->(∀ m',m<=m'->m'<=m+f->SrtA lt p m'->(m'=m+f\/lt (p.getD m' 0) (p.getD (m' - 1) 0)=true)->Q m')->KOk n lt (PySem.W.kas_asc p f m) Q
 |0,m,Q,h1,hm,hs,q=>q m (Nat.le_refl _) (Nat.le_refl _) hs (.inl rfl)
 |f+1,m,Q,h1,hm,hs,q=>by
  refine ⟨hp.at0 (by omega),hp.at0 (by omega),?_⟩
  cases e:lt (p.getD m 0) (p.getD (m - 1) 0) with
  |true=>exact q m (Nat.le_refl _) (by omega) hs (.inr e)
  |false=>
   refine asc_ok hp f (m+1) (by omega) (by omega) (srtA_snoc O h1 hs e) λm' a b c d=>q m' (by omega) (by omega) c ?_
   rcases d with d|d
   ·exact .inl (by omega)
   ·exact .inr d
theorem dsc_rev {p:Array Nat} {a m:Nat} (hm:m+1<=p.size) (hd:DscA lt p (m+1)) (he:EqlA lt p a m):DscA lt (kas_rev p a m) (m+1):=λi j ij jm=>by
 rw [ZL (by omega),ZL (by omega)]
 by_cases ci:a<=i/\i < m
 ·by_cases cj:a<=j/\j < m
  ·rw [if_pos ci,if_pos cj]; exact he _ _ (by omega) (by omega) (by omega) (by omega)
  ·rw [if_pos ci,if_neg cj]; exact hd _ _ (by omega) (by omega)
 ·by_cases cj:a<=j/\j < m
  ·rw [if_neg ci,if_pos cj]; exact hd _ _ (by omega) (by omega)
  ·rw [if_neg ci,if_neg cj]; exact hd _ _ ij jm
theorem Jn:∀ (f:Nat) (p:Array Nat) (m q:Nat) {Q:Array Nat × Nat × Nat->Prop},yV n p->q+1<=m->m+f<=n->DscA lt p m->EqlA lt p (m - (q+1)) m->
  (∀ p' m' q',yV n p'->q'+1<=m'->m<=m'->m'<=m+f->DscA lt p' m'->EqlA lt p' (m' - (q'+1)) m'->Q (p',m',q'))->KOk n lt (PySem.W.kas_desc f p m q) Q
 |0,p,m,q,Q,hp,hq,hm,hd,he,k=>k p m q hp hq (Nat.le_refl _) (Nat.le_refl _) hd he
 |f+1,p,m,q,Q,hp,hq,hm,hd,he,k=>by
  have sz:=hp.size;refine ⟨hp.at0 (by omega),hp.at0 (by omega),?_⟩
  have single:∀ r:Array Nat,EqlA lt r (m+1 - (0+1)) (m+1):=λr i j hi hj i1 j1=>by
   rw [show i=j by omega]
   exact O.rf _
  cases e:lt (p.getD m 0) (p.getD (m - 1) 0) with
  |true=>
   have hd':=YL O (by omega) hd (O.as _ _ e)
   simp only [if_true];by_cases cq:q > 0
   ·rw [if_pos cq];exact Jn f _ (m+1) 0 (ZP hp _ _) (by omega) (by omega) (dsc_rev O (by omega) hd' he) (single _) λp' m' q' a b c d e1 e2=>k p' m' q' a b (by omega) (by omega) e1 e2
   ·rw [if_neg cq];exact Jn f _ (m+1) 0 hp (by omega) (by omega) hd' (single _) λp' m' q' a b c d e1 e2=>k p' m' q' a b (by omega) (by omega) e1 e2
  |false=>
   simp only [Bool.false_eq_true,if_false];refine ⟨hp.at0 (by omega),hp.at0 (by omega),?_⟩
   cases e2:lt (p.getD (m - 1) 0) (p.getD m 0) with
   |true=>exact k p m q hp hq (Nat.le_refl _) (by omega) hd he
   |false=>
    simp only [Bool.false_eq_true,if_false];refine Jn f p (m+1) (q+1) hp (by omega) (by omega) (YL O (by omega) hd e2) (λi j hi hj i1 j1=>?_) λp' m' q' a b c d e3 e4=>k p' m' q' a b (by omega) (by omega) e3 e4
    by_cases ci:i=m
    ·by_cases cj:j=m
     ·rw [ci,cj]; exact O.rf _
     ·subst ci;exact O.tr _ _ _ (he (i - 1) j (by omega) (by omega) (by omega) (by omega)) e
    ·by_cases cj:j=m
     ·subst cj;exact O.tr _ _ _ e2 (he i (j - 1) (by omega) (by omega) (by omega) (by omega))
     ·exact he i j (by omega) (by omega) (by omega) (by omega)
theorem tail3_ok {p:Array Nat} {m:Nat} {Q:Nat × Array Nat->Prop} (hp:yV n p) (h1:1<=m) (hm:m<=n) (hd:DscA lt p m) (q:∀ m' p',m'<=n->1<=m'->yV n p'->SrtA lt p' m'->Q (m',p')):KOk n lt (PySem.W.kas_tail3 m n p) Q:=by
 have sz:=hp.size;unfold PySem.W.kas_tail3;refine KOk.bind _ (asc_ok O (ZP hp 0 m) (n - m) m h1 (by omega) (λi j ij jm=>?_) λm' a b c d=>q m' _ (by omega) (by omega) (ZP hp 0 m) c)
 rw [ZL (by omega),ZL (by omega),if_pos ⟨by omega,by omega⟩,if_pos ⟨by omega,by omega⟩]
 exact hd _ _ (by omega) (by omega)
theorem JS {p:Array Nat} {m:Nat} {Q:Nat × Array Nat->Prop} (hp:yV n p) (h1:1<=m) (hm:m+1<=n) (hd:DscA lt p (m+1)) (q:∀ m' p',m'<=n->1<=m'->yV n p'->SrtA lt p' m'->Q (m',p')):KOk n lt (PySem.W.kas_descPart m n p) Q:=by
 unfold PySem.W.kas_descPart;refine KOk.bind _ (Jn O (n - (m+1)) p (m+1) 0 hp (by omega) (by omega) hd (λi j hi hj i1 j1=>by rw [show i=j by omega]; exact O.rf _) λp' m' q' a b c d e1 e2=>?_)
 dsimp only;have sz:=a.size;by_cases cq:q' > 0
 ·rw [if_pos cq];refine tail3_ok O (ZP a _ _) (by omega) (by omega) (λi j ij jm=>?_) q
  rw [ZL (by omega),ZL (by omega)]
  by_cases ci:m' - (q'+1)<=i/\i < m'
  ·rw [if_pos ci,if_pos ⟨by omega,jm⟩]; exact e2 _ _ (by omega) (by omega) (by omega) (by omega)
  ·rw [if_neg ci];by_cases cj:m' - (q'+1)<=j/\j < m'
   ·rw [if_pos cj]; exact e1 _ _ (by omega) (by omega)
   ·rw [if_neg cj]; exact e1 _ _ ij jm
 ·rw [if_neg cq];exact tail3_ok O a (by omega) (by omega) e1 q
theorem count_ok {p:Array Nat} {Q:Nat × Array Nat->Prop} (hp:yV n p) (h1:1<=n) (q:∀ m' p',m'<=n->1<=m'->yV n p'->SrtA lt p' m'->Q (m',p')):KOk n lt (PySem.W.kas_count n p) Q:=by
 have sz:=hp.size;unfold PySem.W.kas_count;refine KOk.bind _ (asc_ok O hp (n - 1) 1 (Nat.le_refl _) (by omega) (λi j ij jm=>by rw [show i=j by omega]; exact O.rf _) λm a b hs d=>?_)
 by_cases c:m=n
 ·rw [if_pos (by rw [c]; exact beq_self_eq_true n)]
  exact q m p (by omega) a hp hs
 ·rw [if_neg (by simpa using c)]
  have dn:lt (p.getD m 0) (p.getD (m - 1) 0)=true:=by
   rcases d with d|d
   ·omega
   ·exact d
  by_cases c1:m > 1
  ·rw [if_pos c1];refine ⟨hp.at0 (by omega),hp.at0 (by omega),?_⟩
   cases e:lt (p.getD 0 0) (p.getD (m - 1) 0) with
   |true=>exact q m p (by omega) a hp hs
   |false=>
    simp only [Bool.false_eq_true,if_false];have eql:EqlA lt p 0 m:=λi j _ _ hi hj=>by
     have x1:=hs i (m - 1) (by omega) (by omega)
     have x2:=hs 0 j (by omega) (by omega)
     have x3:=hs 0 i (by omega) (by omega)
     have x4:=hs j (m - 1) (by omega) (by omega)
     exact O.tr _ _ _ (O.tr _ _ _ x4 e) x3
    refine JS O (ZP hp _ _) a (by omega) ?_ q
    exact dsc_rev O (by omega) (YL O a (λi j ij jm=>eql i j (by omega) (by omega) (by omega) jm) (O.as _ _ dn)) eql
  ·rw [if_neg c1];exact JS O hp a (by omega) (YL O a (λi j ij jm=>by rw [show i=j by omega]; exact O.rf _) (O.as _ _ dn)) q
theorem Jw {p:Array Nat} {k:Nat} (hp:yV n p) (hk:k < n) (hs:SrtA lt p k):∀ (f l r:Nat) {Q:Nat->Prop},l<=r->r<=k->r - l<=f->(∀ i,i < l->lt (p.getD k 0) (p.getD i 0)=false)->(∀ i,r<=i->i < k->lt (p.getD i 0) (p.getD k 0)=false)->
  (∀ l',l'<=k->(∀ i,i < l'->lt (p.getD k 0) (p.getD i 0)=false)->(∀ i,l'<=i->i < k->lt (p.getD i 0) (p.getD k 0)=false)->Q l')->KOk n lt (PySem.W.kas_place p k f l r) Q
 |0,l,r,Q,lr,rk,hf,lo,hi,q=>q l (by omega) lo (by rw [show l=r by omega]; exact hi)
 |f+1,l,r,Q,lr,rk,hf,lo,hi,q=>by
  unfold PySem.W.kas_place;by_cases c:l≥r
  ·rw [if_pos c];exact q l (by omega) lo (by rw [show l=r by omega]; exact hi)
  ·rw [if_neg c];refine ⟨hp.at0 hk,hp.at0 (by omega),?_⟩
   cases e:lt (p.getD k 0) (p.getD ((l+r) / 2) 0) with
   |true=>
    simp only [if_true];exact Jw hp hk hs f l ((l+r) / 2) (by omega) (by omega) (by omega) lo (λi h1 h2=>O.tr _ _ _ (O.as _ _ e) (hs ((l+r) / 2) i h1 h2)) q
   |false=>
    simp only [Bool.false_eq_true,if_false];exact Jw hp hk hs f ((l+r) / 2+1) r (by omega) (by omega) (by omega) (λi h1=>O.tr _ _ _ (hs i ((l+r) / 2) (by omega) (by omega)) e) hi q
theorem bin_ok:∀ (f:Nat) (p:Array Nat) (k:Nat) {Q:Array Nat->Prop},yV n p->k+f=n->SrtA lt p k->(∀ p',yV n p'->SrtA lt p' n->Q p')->KOk n lt (PySem.W.kas_bin f p k) Q
 |0,p,k,Q,hp,hf,hs,q=>q p hp (by rw [<- hf]; exact hs)
 |f+1,p,k,Q,hp,hf,hs,q=>by
  have sz:=hp.size;unfold PySem.W.kas_bin;refine KOk.bind _ (Jw O hp (by omega) hs k 0 k (by omega) (Nat.le_refl _) (by omega) (λi h=>absurd h (by omega)) (λi h1 h2=>absurd h2 (by omega)) λl lk lo hi=>?_)
  refine bin_ok f _ (k+1) (hp.of (bubble_perm _ _ _)) (by omega) (λi j ij jm=>?_) q
  rw [getD_bub (by omega) (by omega),getD_bub (by omega) (by omega),show k - (k - l)=l by omega]
  by_cases ci:i=l
  ·rw [if_pos ci];by_cases cj:j=l
   ·rw [if_pos cj]; exact O.rf _
   ·rw [if_neg cj,if_pos ⟨by omega,by omega⟩]
    exact hi _ (by omega) (by omega)
  ·rw [if_neg ci];by_cases cj:j=l
   ·rw [if_pos cj,if_neg (by omega)]
    exact lo _ (by omega)
   ·rw [if_neg cj];by_cases di:l < i/\i<=k
    ·rw [if_pos di,if_pos ⟨by omega,by omega⟩]
     exact hs _ _ (by omega) (by omega)
    ·rw [if_neg di];by_cases dj:l < j/\j<=k
     ·rw [if_pos dj]; exact hs _ _ (by omega) (by omega)
     ·rw [if_neg dj]; exact hs _ _ ij (by omega)
theorem sort_ok {Q:Array Nat->Prop} (h1:1<=n) (q:∀ p,yV n p->SrtA lt p n->Q p):KOk n lt (kas_sort n) Q:=by
 unfold kas_sort;refine KOk.bind _ (count_ok O (show yV n (List.toArray (List.range n)) from List.Perm.refl _) h1 λm p a b c d=>?_)
 dsimp only;by_cases e:m < n
 ·rw [if_pos e,show max m 1=m by omega]
  exact bin_ok O (n - m) p m c (by omega) d q
 ·rw [if_neg e];exact q p c (by rw [show n=m by omega]; exact d)
end
theorem kas_of_ok {n:Nat} {lt:Nat->Nat->Bool} {α:Type} {cmp:Nat->Nat->(Bool->Shared->Prop)->Shared->Prop} {P:Shared->Prop} (hc:∀ i j (C:Bool->Shared->Prop) s,i < n->j < n->P s->(∀ s',P s'->C (lt i j) s')->cmp i j C s) {Q:α->Prop} {R:α->Shared->Prop} (hr:∀ a s,Q a->P s->R a s) :
  ∀ (t:KasT α) (s:Shared),P s->KOk n lt t Q->t.kasWp cmp R s
 |.ret a,s,ps,h=>hr a s h ps
 |.ask i j k,s,ps,h=>hc i j _ s h.1 h.2.1 ps λs' ps'=>kas_of_ok hc hr _ s' ps' h.2.2
section
variable {prog:Program} {w:World} {A:Around} {E:Value->Shared->Prop} {s:Shared}
noncomputable def srtH (h:Heap) (a:Addr) (vs:List Value):Heap:=((h.update a (Obj.mapSeq λ_=>#[])).push (seqObj "tuple" vs.toArray 0)).push (seqObj "list" #[] 0)
theorem srt_list {a:Addr} {vs:List Value} {n:Nat} {P:PySem.Fin->Shared->Prop} {G:List Nat->Prop} (w0:s.heap.get? a=some (seqObj "list" vs.toArray n)) (fU:vs.length < 64) (g0:vs.length < 2->G (List.range vs.length))
  (ask:2<=vs.length->wpAny (model prog w) A (keyKind' vs.toArray) (λκ s'=>(kas_sort vs.length).kasWp (kas_ask prog w A κ vs) (λp s''=>G p.toList/\s''={s with heap:=srtH s.heap a vs}) s') (λ_ _=>False) {s with heap:=srtH s.heap a vs})
  (fin:∀ q:List Nat,G q->P (.done (.ret .none)) {s with heap:=sortedHeap s.heap a vs (q.map λi=>vs.getD i Value.none).toArray}) :
  wpAny (model prog w) A (Builtin.«list.sort» ⟨[.ref a],[]⟩) P E s:=by
 have la:=Heap.lt_size w0;obtain ⟨k1,w1⟩:∃ k,(s.heap.update a (Obj.mapSeq λ_=>(#[]:Array Value))).get? a=some (seqObj "list" #[] k):=⟨_,get?_update_seq w0 λ_=>#[]⟩
 have w6:(srtH s.heap a vs).get? a=some (seqObj "list" #[] k1):=Heap.get?_push_of_some _ (Heap.get?_push_of_some _ w1);have zz:vs.toArray.size=vs.length:=List.size_toArray;rw [list_sort_plain];refine wpAny_bind (listItems_at w0 rfl (wpAny_bind (listUpdate_at w0 rfl (wpAny_bind (seqEpoch_at w1 rfl (wpAny_bind (wpAny_newTuple (wpAny_bind (wpAny_newList (wpAny_holding ?_) (Nat.zero_le _))) (by show vs.length<=_; rw [sizeLine_eq]; omega))))) (by rw [zz,sizeLine_eq]; omega) (Nat.zero_le _))))
 show wpAny (model prog w) A _ P E {s with heap:=srtH s.heap a vs}
 dsimp only;by_cases c:vs.toArray.size < 2
 ·rw [if_pos c,if_pos c]
  refine wpAny_bind (wpAny_pure (by
   rw [StateT.run_pure]
   refine wpAny_bind (wpAny_pure (wpAny_bind (seqEpoch_at w6 rfl (wpAny_bind (listUpdate_at w6 rfl ?_ (Nat.zero_le _) (by
    rw [Array.size_map];show (pairsOf vs).size<=_;rw [pairsOf_size,sizeLine_eq]
    omega))))))
   simp only [bne_self_eq_false,Bool.false_eq_true,if_false];have e:((arrOf (SortSt.mk' general' (vs.toArray.zip vs.toArray) #[] 7 none)).map (·.2))=((List.range vs.length).map λi=>vs.getD i Value.none).toArray:=by
    apply Array.toList_inj.mp;show ((vs.toArray.zip vs.toArray).map (·.2)).toList=_;refine List.ext_getElem (by simp) λi h1 h2=>?_
    have hi:i < vs.length:=by simpa using h2
    simp [hi]
   have z:=fin (List.range vs.length) (g0 (by omega))
   rw [<- e] at z
   exact wpAny_pure z))
 ·rw [if_neg c,if_neg c];have c2:2<=vs.length:=by omega
  refine wpAny_bind (wpAny_mono (ask c2) (λκ s1 hk=>?_) λ_ _ x=>x.elim)
  refine wpAny_bind (wpAny_mono (PySem.W.kat_run (Q:=λst' s'=>∃ p:Array Nat,p.size=vs.length/\arrOf st'=p.map (PySem.W.kas_item (vs.toArray.zip vs.toArray))/\failedOf st'=none/\G p.toList/\s'={s with heap:=srtH s.heap a vs})
   rfl c2 fU (λp' st' s' b1 b2 b3 b4=>⟨p',b1,b2,b3,b4⟩) hk) ?_ λ_ _ e=>e)
  rintro ⟨⟨⟩,st'⟩ s' ⟨p,hp,har,hf,hg,rfl⟩;have hout:=PySem.W.kat_snds rfl har;dsimp only;rw [hout];refine wpAny_bind (seqEpoch_at w6 rfl (wpAny_bind (listUpdate_at w6 rfl ?_ (Nat.zero_le _) (Nat.le_trans (Nat.le_of_eq (by rw [List.size_toArray,List.length_map,Array.length_toList,hp])) (show vs.length<=sizeLine+1 by rw [sizeLine_eq]; omega)))))
  rw [hf];simp only [bne_self_eq_false,Bool.false_eq_true,if_false];exact wpAny_pure (fin p.toList hg)
theorem srt_sorted {l:Addr} {vs:List Value} {Q:Value->Shared->Prop} {G:List Nat->Prop} (hl:s.heap.IsList l vs.toArray) (fU:vs.length < 64) (g0:vs.length < 2->G (List.range vs.length))
  (ask:2<=vs.length->∀ h':Heap,(∀ b o,s.heap.get? b=some o->h'.get? b=some o)->wpAny (model prog w) A.in1.in1 (keyKind' vs.toArray) (λκ s'=>(kas_sort vs.length).kasWp (kas_ask prog w A.in1.in1 κ vs) (λp s''=>G p.toList/\s''={s with heap:=h'}) s') (λ_ _=>False) {s with heap:=h'})
  (fin:∀ q:List Nat,G q->Q (.ref (s.heap.objs.size+1)) {s with heap:=sortedAll s.heap vs (q.map λi=>vs.getD i Value.none).toArray}) :
  wpAny (model prog w) A (call (.builtin "sorted") [.ref l]) Q E s:=by
 have sz:((s.heap.push (seqObj "list" #[] 0)).update s.heap.objs.size (Obj.mapSeq (·++vs.toArray))).objs.size=s.heap.objs.size+1:=by rw [Heap.size_update,size_push']
 have w2:(((s.heap.push (seqObj "list" #[] 0)).update s.heap.objs.size (Obj.mapSeq (·++vs.toArray))).push (seqObj "list" vs.toArray 0)).get? (s.heap.objs.size+1)=some (seqObj "list" vs.toArray 0):=by
  rw [<- sz];exact Heap.get?_push_size _ rfl
 have kp:∀ b o,s.heap.get? b=some o->(srtH (((s.heap.push (seqObj "list" #[] 0)).update s.heap.objs.size (Obj.mapSeq (·++vs.toArray))).push (seqObj "list" vs.toArray 0)) (s.heap.objs.size+1) vs).get? b=some o:=λb o q=>by
  have lt:=Heap.lt_size q;refine Heap.get?_push_of_some _ (Heap.get?_push_of_some _ ?_);have m1:=Nat.ne_of_lt (Nat.lt_succ_of_lt lt);have m0:=Nat.ne_of_lt lt;rw [Heap.get?_update_ne _ _ _ _ m1,Heap.get?_push_ne _ _ _ (by rw [sz]; exact m1),Heap.get?_update_ne _ _ _ _ m0,Heap.get?_push_ne _ _ _ m0]
  exact q
 refine (Calls.call_function_entry kind_sorted plain_sorted entry_sorted (args_sorted1 _) (by
  unfold Builtin.«sorted»;refine wpAny_bind (m:=checkCount "sorted" 1 1 _) (wpAny_pure (wpAny_bind (collect_list hl (wpAny_bind (wpAny_newList ?_ (by rw [sizeLine_eq]; omega))) (by rw [sizeLine_eq]; omega))))
  show wpAny _ _ _ _ _ {s with heap:=((s.heap.push (seqObj "list" #[] 0)).update s.heap.objs.size (Obj.mapSeq (·++vs.toArray))).push (seqObj "list" vs.toArray 0)}
  rw [sz];refine wpAny_bind (wpAny_holding (wpAny_call_entry slot_list_sort ⟨_,w2,rfl⟩ entry_list_sort ?body (args_list_sort _)));case body=>
   refine srt_list (s:={s with heap:=((s.heap.push (seqObj "list" #[] 0)).update s.heap.objs.size (Obj.mapSeq (·++vs.toArray))).push (seqObj "list" vs.toArray 0)}) w2 fU g0 (λc=>ask c _ kp) λq hq=>⟨_,rfl,wpAny_pure ⟨_,rfl,fin q hq⟩⟩))
end
noncomputable def lexL:List Int->List Int->Bool
 |x::a,y::b=>if x=y then lexL a b else decide (x < y)
 |_,_=>false
theorem lexL_as:∀ a b:List Int,lexL a b=true->lexL b a=false
 |[],[],h=>by cases h
 |[],_::_,h=>nomatch h
 |_::_,[],h=>nomatch h
 |x::a,y::b,h=>by
  unfold lexL at h ⊢;by_cases e:x=y
  ·rw [if_pos e] at h;rw [if_pos e.symm];exact lexL_as a b h
  ·rw [if_neg e] at h;rw [if_neg (λz=>e z.symm)]
   have:=of_decide_eq_true h;exact decide_eq_false (by omega)
theorem lexL_tr:∀ (m:Nat) (a b c:List Int),a.length=m->b.length=m->c.length=m->lexL b a=false->lexL c b=false->lexL c a=false
 |0,[],[],[],_,_,_,_,_=>rfl
 |m+1,x::a,y::b,z::c,h1,h2,h3,e1,e2=>by
  unfold lexL at e1 e2 ⊢;by_cases xy:y=x
  ·rw [if_pos xy] at e1;by_cases yz:z=y
   ·rw [if_pos yz] at e2;rw [if_pos (yz.trans xy)];exact lexL_tr m a b c (by simpa using h1) (by simpa using h2) (by simpa using h3) e1 e2
   ·rw [if_neg yz] at e2;rw [if_neg (λw=>yz (w.trans xy.symm))]
    have:=of_decide_eq_false e2;exact decide_eq_false (by omega)
  ·rw [if_neg xy] at e1;have e1:=of_decide_eq_false e1;by_cases yz:z=y
   ·rw [if_neg (λw=>xy (yz.symm.trans w))]
    exact decide_eq_false (by omega)
   ·rw [if_neg yz] at e2;have e2:=of_decide_eq_false e2;rw [if_neg (by omega)]
    exact decide_eq_false (by omega)
noncomputable def ksAt (m:Nat) (kss:List (List Int)) (i:Nat):List Int:=kss.getD i (List.replicate m 0)
theorem ks_len {m:Nat} {kss:List (List Int)} (h:∀ ks∈kss,ks.length=m) (i:Nat):(ksAt m kss i).length=m:=by
 unfold ksAt;rw [List.getD_eq_getElem?_getD];by_cases c:i < kss.length
 ·rw [List.getElem?_eq_getElem c];exact h _ (List.getElem_mem c)
 ·rw [List.getElem?_eq_none (by omega)]
  exact List.length_replicate
theorem ks_ordr {m:Nat} {kss:List (List Int)} (h:∀ ks∈kss,ks.length=m):Ordr λi j=>lexL (ksAt m kss i) (ksAt m kss j):=
 ⟨λ_ _ e=>lexL_as _ _ e,λi j k e1 e2=>lexL_tr m _ _ _ (ks_len h i) (ks_len h j) (ks_len h k) e1 e2⟩
noncomputable def RowS (K:Frag) (H:Hp) (b:Bool) (Ds:List PyData) (v:V) (ks:List Int):Prop:=∃ a pre,v=.ref a/\SqT K H a (pre++ks.map V.int)/\Dps K H pre Ds/\(if b=true then pre=[]/\ks≠[] else ∃ c rest cs,pre=.ref c::rest/\SqT K H c cs)
section
variable {prog:Program} {w:World} {A:Around} {E:Value->Shared->Prop} {s:Shared}
open PySem.W
theorem kl_ints {b fin:Bool} {Q:Bool->Shared->Prop}:∀ (xs ys:List Int) (us vs:List Value) (i:Nat),xs.length=ys.length->Vals (xs.map V.int) us->Vals (ys.map V.int) vs->(lexL xs ys=false->lexL ys xs=false->lexL xs ys=fin)->Q (lexL xs ys) s->KatLex prog w A b fin Q (us.zip vs) i s
 |[],[],_,_,i,_,.nil,.nil,hf,q=>kat_nil (by rw [<- hf rfl rfl]; exact q)
 |x::xs,y::ys,u::us,v::vs,i,l,.cons hu ru,.cons hv rv,hf,q=>by
  obtain ⟨t,rfl⟩:=hu;obtain ⟨t',rfl⟩:=hv;show KatLex prog w A b fin Q ((Value.int x t,Value.int y t')::us.zip vs) i s;refine kat_cons (wpAny_eqBool_int ?_);unfold lexL at hf q;by_cases e:x=y
  ·rw [if_pos e,if_pos e.symm] at hf;rw [if_pos e] at q;rw [show (x == y)=true from by simpa using e]
   exact kat_yes (kl_ints xs ys us vs (i+1) (by simpa using l) ru rv hf q)
  ·rw [if_neg e] at q;rw [show (x == y)=false from by simpa using e]
   refine kat_no ?_;cases hb:(b && i == 0) with
   |true=>exact oneLt_int q
   |false=>exact kat_one _ _ (lt_int q)
theorem kl_pre {b fin:Bool} {Q:Bool->Shared->Prop} (hu:A.units+60 < cLine) {us' vs':List Value}:∀ (Ds:List PyData) (us vs:List Value) (as bs:List Addr) (i:Nat),ReadsAll s.heap us Ds as->ReadsAll s.heap vs Ds bs->PyData.canLayAll0 Ds=true->PyData.depthAll Ds<=60->(∀ j,KatLex prog w A b fin Q (us'.zip vs') j s)->KatLex prog w A b fin Q ((us++us').zip (vs++vs')) i s
 |[],_,_,_,_,i,.nil,.nil,_,_,k=>k i
 |D::Ds,_,_,_,_,i,.cons r1 t1,.cons r2 t2,c,d,k=>by
  have c':D.canLay0=true/\PyData.canLayAll0 Ds=true:=by
   have z:(D.canLay0 && PyData.canLayAll0 Ds)=true:=c;rw [Bool.and_eq_true] at z;exact z
  have d':max D.depth (PyData.depthAll Ds)<=60:=d;refine kat_cons (SeqAt.eqAt_reads D D A s _ _ _ _ r1 r2 c'.1 c'.1 (by omega) prog w _ _ ?_)
  rw [SeqAt.eqv_refl D c'.1];exact kat_yes (kl_pre hu Ds _ _ _ _ (i+1) t1 t2 c'.2 (by omega) k)
end
theorem Yc:∀ {xs ys:List V} {us:List Value},Vals (xs++ys) us->∃ u1 u2,us=u1++u2/\Vals xs u1/\Vals ys u2
 |[],_,us,h=>⟨[],us,rfl,.nil,h⟩
 |_::_,_,_::_,.cons a r=>by
  obtain ⟨u1,u2,e,v1,v2⟩:=Yc r;exact ⟨_::u1,u2,by rw [e]; rfl,.cons a v1,v2⟩
theorem dps_len {K:Frag} {H:Hp}:∀ {xs:List V} {ds:List PyData},Dps K H xs ds->xs.length=ds.length
 |_,_,.nil=>rfl
 |_,_,.cons _ r=>by rw [List.length_cons,List.length_cons,dps_len r]
section
variable {X:Cx} {pins:List (Addr × Obj)} {σ:L2.St} {H:Hp} {s:Shared} {A:Around} {E:Value->Shared->Prop} {h':Heap}
theorem row_cmp (I:Inv X pins σ H s) (hu:A.units+60 < cLine) (kp:∀ b o,s.heap.get? b=some o->h'.get? b=some o) {b:Bool} {Ds:List PyData} {v1 v2:V} {k1 k2:List Int} {u1 u2:Value} (r1:RowS X.K H b Ds v1 k1) (r2:RowS X.K H b Ds v2 k2) (l:k1.length=k2.length) (e1:RelV v1 u1) (e2:RelV v2 u2) (cs:PyData.canLayAll0 Ds=true) (dp:PyData.depthAll Ds<=60) {C:Bool->Shared->Prop} (q:C (lexL k1 k2) {s with heap:=h'}) :
  wpAny (model X.prog X.w) A (keyLt' (tuples' b) u1 u2) C E {s with heap:=h'}:=by
 obtain ⟨a1,p1,rfl,s1,d1,c1⟩:=r1;obtain ⟨a2,p2,rfl,s2,d2,c2⟩:=r2;cases e1
 cases e2
 obtain ⟨i1,v1,⟨o1,g1,t1,n1,x1⟩,_⟩:=I.tuple s1;obtain ⟨i2,v2,⟨o2,g2,t2,n2,x2⟩,_⟩:=I.tuple s2;obtain ⟨oN,oO,rfl,w1,w2⟩:=Yc v1;obtain ⟨oP,oQ,rfl,w3,w4⟩:=Yc v2;have L1:=w1.length;have L2:=w2.length;have L3:=w3.length;have L4:=w4.length;have D1:=dps_len d1;have D2:=dps_len d2;rw [List.length_map] at L2 L4;have fin:decide ((oN++oO).toArray.size < (oP++oQ).toArray.size)=false:=decide_eq_false (by simp only [List.size_toArray,List.length_append]; omega)
 refine PySem.W.kat_lt (s:={s with heap:=h'}) (kp _ _ g1) x1 (kp _ _ g2) x2 ?_
 rw [fin];show PySem.W.KatLex X.prog X.w A b false C ((oN++oO).zip (oP++oQ)) 0 {s with heap:=h'}
 obtain ⟨Hk,R1⟩:=Dps.reads I d1 w1;obtain ⟨Hl,R2⟩:=Dps.reads I d2 w3;exact kl_pre hu Ds oN oP Hk Hl 0 (ReadsAll.keeps kp R1) (ReadsAll.keeps kp R2) cs dp λj=>kl_ints k1 k2 oO oQ j l w2 w4 (λe _=>e) q
theorem row_tup (I:Inv X pins σ H s) (kp:∀ b o,s.heap.get? b=some o->h'.get? b=some o) {b:Bool} {Ds:List PyData} {y:V} {ks:List Int} {u:Value} (r:RowS X.K H b Ds y ks) (rv:RelV y u) :
  ∃ (a:Addr) (o:Obj) (xs:Array Value) (n:Nat) (f:Value),u=.ref a/\h'.get? a=some o/\o.cls=.type "tuple"/\o.data=.seq xs n/\xs[0]?=some f/\Looks (model X.prog X.w) h' (typeOf f) (if b=true then Value.type "int" else Value.type "tuple"):=by
 obtain ⟨a,pre,rfl,sq,_,kind⟩:=r;cases rv
 obtain ⟨i1,v1,⟨o1,g1,t1,n1,x1⟩,_⟩:=I.tuple sq;cases b with
 |true=>
  obtain ⟨e,ne⟩:=(show pre=[]/\ks≠[] from kind);subst e;cases ks with
  |nil=>exact absurd rfl ne
  |cons k ks=>
   cases v1 with
   |cons hv _=>
    obtain ⟨t,rfl⟩:=hv;exact ⟨a,o1,_,n1,_,rfl,kp _ _ g1,t1,x1,rfl,PySem.W.Looks.now⟩
 |false=>
  obtain ⟨c,rest,cs,e,sc⟩:=(show ∃ c rest cs,pre=V.ref c::rest/\SqT X.K H c cs from kind);subst e;cases v1 with
  |cons hv _=>
   cases hv
   obtain ⟨i2,v2,⟨o2,g2,t2,n2,x2⟩,_⟩:=I.tuple sc;refine ⟨a,o1,_,n1,.ref c,rfl,kp _ _ g1,t1,x1,rfl,?_⟩;show Looks (model X.prog X.w) h' (typeOf (.ref c)) (Value.type "tuple");rw [<- t2];exact (PySem.W.Looks.ld (kp _ _ g2)).andThen .now
theorem rows_tups (I:Inv X pins σ H s) (kp:∀ b o,s.heap.get? b=some o->h'.get? b=some o) {b:Bool} {Ds:List PyData}:∀ (ys:List V) (kss:List (List Int)) (its:List Value),Al2 (RowS X.K H b Ds) ys kss->Vals ys its->
  ∃ fs:List Value,fs.length=its.length/\PySem.W.KatTups h' its fs/\∀ v∈fs,Looks (model X.prog X.w) h' (typeOf v) (if b=true then Value.type "int" else Value.type "tuple")
 |[],_,its,_,r=>by
  cases r
  exact ⟨[],rfl,trivial,λ_ h=>nomatch h⟩
 |y::ys,kss,its,z,r=>by
  cases kss with
  |nil=>exact z.elim
  |cons ks kss=>
  cases r with
  |cons rv rr=>
  obtain ⟨fs,l,t,lk⟩:=rows_tups I kp ys kss _ z.2 rr;obtain ⟨a,o,xs,n,f,rfl,g,tc,dx,hf,lf⟩:=row_tup I kp z.1 rv
  exact ⟨f::fs,by rw [List.length_cons,List.length_cons,l],PySem.W.KatTups.cons g tc dx hf t,λv hv=>by
   rcases List.mem_cons.mp hv with e|e
   ·exact e▸lf
   ·exact lk v e⟩
theorem vals_pick {ys:List V} {its:List Value} (r:Vals ys its):∀ (q:List Nat),(∀ i∈q,i < ys.length)->Vals (q.map λi=>ys.getD i .non) (q.map λi=>its.getD i Value.none)
 |[],_=>.nil
 |i::q,h=>by
  have hi:i < ys.length:=h i (List.mem_cons_self ..);have hx:ys[i]?=some ys[i]:=List.getElem?_eq_getElem hi;obtain ⟨u,hu,ru⟩:=r.get hx;have e1:ys.getD i .non=ys[i]:=by rw [List.getD_eq_getElem?_getD,hx]; rfl
  have e2:its.getD i Value.none=u:=by rw [List.getD_eq_getElem?_getD,hu]; rfl
  show Vals (ys.getD i .non::q.map _) (its.getD i Value.none::q.map _);rw [e1,e2];exact .cons ru (vals_pick r q λj hj=>h j (List.mem_cons_of_mem _ hj))
noncomputable def rSortT (K:Frag) (xs:List V) (H:Hp) (Q:VK):Prop:=∃ (p:Addr) (ys:List V) (b:Bool) (Ds:List PyData) (m:Nat) (kss:List (List Int)),xs=[.ref p]/\SqL K H p ys/\ys.length < 64/\Al2 (RowS K H b Ds) ys kss/\(∀ ks∈kss,ks.length=m)/\PyData.canLayAll0 Ds=true/\PyData.depthAll Ds<=60/\
 ∀ (q:List Nat) (l:Addr),q.Perm (List.range ys.length)->(∀ i j,i<=j->j < ys.length->lexL (ksAt m kss (q.getD j 0)) (ksAt m kss (q.getD i 0))=false)->H l=none->Q (.ref l) (upd H l (.lst (q.map λi=>ys.getD i .non)))
theorem call_sortedT {K:Frag} (hK:X.K=K) (hu:X.A.units+100 < cLine):jB X (.builtin "sorted") (rSortT K):=by
 subst hK;intro pins s σ H xs us Q I r h;obtain ⟨p,ys,b,Ds,m,kss,rfl,hq,fU,al,hm,cs,dep,q⟩:=h;obtain ⟨u,rfl,rx⟩:=Ze r;cases rx
 obtain ⟨its,r',pl,hz⟩:=I.list hq;have hlen:=r'.length;have lk:=Al2.len al;have u2:X.A.in1.in1.units+60 < cLine:=by simp only [Around.in1_units]; omega
 have O:=ks_ordr hm;refine srt_sorted (vs:=its) (G:=λq=>q.Perm (List.range its.length)/\∀ i j,i<=j->j < its.length->lexL (ksAt m kss (q.getD j 0)) (ksAt m kss (q.getD i 0))=false) pl.isList (by omega) (λc=>⟨List.Perm.refl _,λi j ij jl=>?_⟩) (λc h' kp=>?_) (λz hz'=>?_)
 ·rw [show j=i by omega]
  exact O.rf _
 ·obtain ⟨fs,lf,tu,tl⟩:=rows_tups I kp _ _ _ al r';refine PySem.W.kat_kind (s:={s with heap:=h'}) tu (by omega) tl (by cases b<;>rfl) ?_
  have eb:((if b=true then Value.type "int" else Value.type "tuple") != Value.type "tuple")=b:=by cases b<;>rfl
  rw [eb];refine kas_of_ok (n:=its.length) (lt:=λi j=>lexL (ksAt m kss i) (ksAt m kss j)) (P:=λs'=>s'={s with heap:=h'}) (λi j C s' hi hj es k=>?_) (λa s' ha es=>⟨ha,es⟩) _ _ rfl (sort_ok O (by omega) λp' hp hs=>⟨hp,λi j ij jl=>?_⟩)
  ·subst es;obtain ⟨y1,hy1⟩:∃ y,ys[i]?=some y:=⟨_,List.getElem?_eq_getElem (by omega)⟩
   obtain ⟨y2,hy2⟩:∃ y,ys[j]?=some y:=⟨_,List.getElem?_eq_getElem (by omega)⟩
   obtain ⟨k1,m3,r1⟩:=Al2.get al hy1;obtain ⟨k2,EV,r2⟩:=Al2.get al hy2;obtain ⟨u1,hu1,Hm⟩:=r'.get hy1;obtain ⟨Hn,hu2,oJ⟩:=r'.get hy2;have a1:ksAt m kss i=k1:=by unfold ksAt; rw [List.getD_eq_getElem?_getD,m3]; rfl
   have a2:ksAt m kss j=k2:=by unfold ksAt; rw [List.getD_eq_getElem?_getD,EV]; rfl
   have b1:its.getD i Value.none=u1:=by rw [List.getD_eq_getElem?_getD,hu1]; rfl
   have b2:its.getD j Value.none=Hn:=by rw [List.getD_eq_getElem?_getD,hu2]; rfl
   unfold kas_ask;rw [b1,b2];have k:C (lexL (ksAt m kss i) (ksAt m kss j)) {s with heap:=h'}:=k _ rfl
   rw [a1,a2] at k;exact row_cmp I u2 kp r1 r2 ((hm _ (List.mem_of_getElem? m3)).trans (hm _ (List.mem_of_getElem? EV)).symm) Hm oJ cs dep k
  ·have z:=hs i j ij jl;have ge:∀ k,p'.toList.getD k 0=p'.getD k 0:=λk=>by rw [List.getD_eq_getElem?_getD,Array.getD_eq_getD_getElem?,Array.getElem?_toList]
   rw [ge,ge];exact z
 ·obtain ⟨hp,hs⟩:=hz';have inr:∀ i∈z,i < ys.length:=λi hi=>by have:=List.mem_range.mp (hp.mem_iff.mp hi); omega
  have zl:z.length=its.length:=by rw [hp.length_eq,List.length_range]
  have out:=vals_pick r' z inr;obtain ⟨e,he⟩:=sortedAll_at s.heap its (z.map λi=>its.getD i Value.none).toArray
  have ok:zu X.prog X.w (upd H (s.heap.objs.size+1) (.lst (z.map λi=>ys.getD i .non))) (sortedAll s.heap its (z.map λi=>its.getD i Value.none).toArray) (s.heap.objs.size+1) (.lst (z.map λi=>ys.getD i .non)):=by
   refine ⟨?_,z.map λi=>its.getD i Value.none,e,out,he⟩
   rw [List.length_map];exact Nat.le_trans (show z.length<=64 by omega) (by decide)
  exact ⟨.ref (s.heap.objs.size+1),_,I.laid (t':=s.toks) (λb o ho=>sortedAll_old ho) (Nat.le_succ _) ok,rfl,q z _ (by rw [show ys.length=its.length by omega]; exact hp) (λi j ij jl=>hs i j ij (by omega)) (I.hok.fresh (Nat.le_succ _))⟩
end
theorem J2 {β:Type} (key:β->List Int):∀ (xs ts:List β),xs.Perm ts->xs.Pairwise (λa b=>lexL (key b) (key a)=false)->ts.Pairwise (λa b=>lexL (key a) (key b)=true)->xs=ts
 |xs,[],hp,_,_=>hp.eq_nil
 |[],t::ts,hp,_,_=>absurd hp.symm.eq_nil (by simp)
 |x::xs,t::ts,hp,h1,h2=>by
  have e:x=t:=by
   rcases List.mem_cons.mp (hp.mem_iff.mp (List.mem_cons_self ..)) with e|m
   ·exact e
   ·have a:=List.rel_of_pairwise_cons h2 m;rcases List.mem_cons.mp (hp.mem_iff.mpr (List.mem_cons_self (a:=t) (l:=ts))) with e|m'
    ·exact e.symm
    ·have b:=List.rel_of_pairwise_cons h1 m';rw [a] at b;cases b
  subst e;rw [J2 key xs ts (List.perm_cons x |>.mp hp) (List.Pairwise.of_cons h1) (List.Pairwise.of_cons h2)]
theorem pick_perm {β:Type} (d:β) (bs:List β) {q:List Nat} (h:q.Perm (List.range bs.length)):(q.map λi=>bs.getD i d).Perm bs:=by
 refine (h.map _).trans (List.Perm.of_eq ?_);refine List.ext_getElem (by simp) λi h1 h2=>?_
 simp [h2]
theorem pick_al {β:Type} {R:V->β->Prop} {ys:List V} {bs:List β} (d:β) (al:Al2 R ys bs):∀ (q:List Nat),(∀ i∈q,i < ys.length)->Al2 R (q.map λi=>ys.getD i .non) (q.map λi=>bs.getD i d)
 |[],_=>trivial
 |i::q,h=>by
  have hi:i < ys.length:=h i (List.mem_cons_self ..);have hx:ys[i]?=some ys[i]:=List.getElem?_eq_getElem hi;obtain ⟨b,hb,r⟩:=Al2.get al hx;have e1:ys.getD i .non=ys[i]:=by rw [List.getD_eq_getElem?_getD,hx]; rfl
  have e2:bs.getD i d=b:=by rw [List.getD_eq_getElem?_getD,hb]; rfl
  show R (ys.getD i .non) (bs.getD i d)/\_;rw [e1,e2];exact ⟨r,pick_al d al q λj hj=>h j (List.mem_cons_of_mem _ hj)⟩
theorem sort_al {β:Type} {R:V->β->Prop} {ys:List V} {bs ts:List β} {m:Nat} (key:β->List Int) (al:Al2 R ys bs) {q:List Nat} (hp:q.Perm (List.range ys.length)) (hs:∀ i j,i<=j->j < ys.length->lexL (ksAt m (bs.map key) (q.getD j 0)) (ksAt m (bs.map key) (q.getD i 0))=false) (ht:ts.Perm bs) (hts:ts.Pairwise λa b=>lexL (key a) (key b)=true):Al2 R (q.map λi=>ys.getD i .non) ts:=by
 have lb:=Al2.len al;cases bs with
 |nil=>
  have y0:ys=[]:=List.eq_nil_of_length_eq_zero lb;have q0:q=[]:=by
   rw [y0] at hp;exact hp.eq_nil
  rw [q0,ht.eq_nil];trivial
 |cons d bs=>
  have inr:∀ i∈q,i < ys.length:=λi hi=>List.mem_range.mp (hp.mem_iff.mp hi)
  have a:=pick_al d al q inr;have ql:q.length=ys.length:=by rw [hp.length_eq,List.length_range]
  have e:(q.map λi=>(d::bs).getD i d)=ts:=by
   refine J2 key _ _ ((pick_perm d (d::bs) (by rw [<- lb]; exact hp)).trans ht.symm) ?_ hts
   rw [List.pairwise_iff_getElem];intro i j hi hj ij;rw [List.length_map] at hi hj;have z:=hs i j (Nat.le_of_lt ij) (by omega)
   have at':∀ k (hk:k < q.length),ksAt m ((d::bs).map key) (q.getD k 0)=key ((q.map λi=>(d::bs).getD i d)[k]'(by simpa using hk)):=λk hk=>by
    have c:q.getD k 0=q[k]:=by rw [List.getD_eq_getElem?_getD,List.getElem?_eq_getElem hk]; rfl
    have r:q[k] < (d::bs).length:=by rw [<- lb]; exact inr _ (List.getElem_mem hk)
    unfold ksAt;rw [c,List.getD_eq_getElem?_getD,List.getElem?_map,List.getElem?_eq_getElem r,List.getElem_map,List.getD_eq_getElem?_getD,List.getElem?_eq_getElem r];rfl
   rw [at' i hi,at' j hj] at z;exact z
  rw [<- e];exact a
noncomputable def adjP (p n:Pr):Bool:=decide (p.1=n.1) && (decide (p.2.1=n.2.2) || decide (p.2.2=n.2.1))
noncomputable def besP (R:Rat × Rat) (gs:List Bq) (n:Pr):Bool:=besB (boxB R gs n.1 n.2.1) (boxB R gs n.1 n.2.2) n.1
structure SymP (R R':Rat × Rat) (T:Bq->Bq) (φ:Pr->Pr):Prop where
 inn:∀ {n p},InP n p->InP n (φ p)
 inv:∀ {n p},InP n p->φ (φ p)=p
 jnt:∀ {gs p},InP gs.length p->jntP R' (gs.map T) (φ p)=jntP R gs p
 met:∀ {gs t p},InP gs.length p->metP R' (gs.map T) t (φ p)=metP R gs t p
 bes:∀ {gs p},InP gs.length p->besP R' (gs.map T) (φ p)=besP R gs p
 adj:∀ {n p q},InP n p->InP n q->adjP (φ p) (φ q)=adjP p q
 num:∀ {n p},InP n p->(numP [φ p]).Perm (numP [p])
 cor:∀ {gs p},InP gs.length p->corP R' (gs.map T) (φ p)=corP R gs p
 crn:∀ a b,crnB (T a) (T b)=crnB a b
 att:∀ t b,atB t (T b)=T (atB t b)
 wts:∀ b,(T b).m=b.m
 new:∀ {gs q} (i:Nat),InP gs.length q->WtB gs->((i:Int)=q.2.1->(if (i:Int)=(φ q).2.1 then oneP R' (gs.map T) (φ q) else othP R' (gs.map T) (φ q))=T (oneP R gs q))/\((i:Int)=q.2.2->(if (i:Int)=(φ q).2.1 then oneP R' (gs.map T) (φ q) else othP R' (gs.map T) (φ q))=T (othP R gs q))
noncomputable def keyI (p:Pr):List Int:=[(p.1:Int),p.2.1,p.2.2]
theorem prs_rise {n:Nat} (h:n<=6):(prsP n).Pairwise λa b=>lexL (keyI a) (keyI b)=true:=by
 have z:∀ m,m<=6->(prsP m).Pairwise λa b=>lexL (keyI a) (keyI b)=true:=by decide+kernel
 exact z n h
theorem fold_wtP {R:Rat × Rat}:∀ (l:List Pr) {gs:List Bq},WtB gs->(∀ q∈l,InP gs.length q)->WtB (l.foldl (prtP R) gs)
 |[],_,w,_=>w
 |q::l,gs,w,hl=>fold_wtP l (prt_wt w (hl q (List.mem_cons_self ..))) λr hr=>by rw [yT]; exact hl r (List.mem_cons_of_mem _ hr)
theorem numP_perm {l l':List Pr} (h:l.Perm l'):(numP l).Perm (numP l'):=by
 unfold numP;exact ((h.map _).append (h.map _)).filter _
section
variable {R R':Rat × Rat} {T:Bq->Bq} {φ:Pr->Pr} (S:SymP R R' T φ)
include S
theorem SymP.num_map {n:Nat}:∀ {l:List Pr},(∀ q∈l,InP n q)->(numP (l.map φ)).Perm (numP l)
 |[],_=>List.Perm.refl _
 |q::l,h=>J5.trans (((S.num (h q (List.mem_cons_self ..))).append (SymP.num_map λr hr=>h r (List.mem_cons_of_mem _ hr))).trans J5.symm)
variable {gs:List Bq} {now:Rat}
theorem SymP.com_up {t:Rat} (h:comP R gs now=some t):∃ t',comP R' (gs.map T) now=some t'/\t'<=t:=by
 obtain ⟨le,p,hp,j,m⟩:=Z8 h;refine J9 (p:=φ p) (by rw [List.length_map]; exact S.inn hp) (by rw [S.jnt hp]; exact j) le ?_
 rw [S.met hp,S.cor hp];exact m
theorem SymP.com_down {t:Rat} (h:comP R' (gs.map T) now=some t):∃ t',comP R gs now=some t'/\t'<=t:=by
 obtain ⟨le,p,hp,j,m⟩:=Z8 h;rw [List.length_map] at hp;have hq:=S.inn hp;have e:=S.inv hp;have j':=S.jnt (gs:=gs) hq;have m':=S.met (gs:=gs) (t:=t) hq;have c':=S.cor (gs:=gs) hq;rw [e] at j' m' c';exact J9 (p:=φ p) hq (by rw [<- j']; exact j) le (by rw [<- m',<- c']; exact m)
theorem SymP.com:comP R' (gs.map T) now=comP R gs now:=by
 cases a:comP R gs now with
 |none=>
  cases b:comP R' (gs.map T) now with
  |none=>rfl
  |some t=>
   obtain ⟨t',e,_⟩:=S.com_down b;rw [a] at e;cases e
 |some t=>
  obtain ⟨t1,e1,l1⟩:=S.com_up a;obtain ⟨t2,e2,l2⟩:=S.com_down e1;rw [a] at e2;cases e2
  rw [e1,show t1=t by grind]
theorem SymP.due_mem {q:Pr} (hq:InP gs.length q):φ q∈dueP R' (gs.map T) now↔q∈dueP R gs now:=by
 cases a:comP R gs now with
 |none=>
  unfold dueP;rw [S.com,a];simp [cmgP]
 |some t=>
  rw [due_is (by rw [S.com]; exact a),due_is a,List.length_map,S.jnt hq,S.met hq]
  exact ⟨λh=>⟨hq,h.2⟩,λh=>⟨S.inn hq,h.2⟩⟩
theorem SymP.due (l6:gs.length<=6):(dueP R' (gs.map T) now).Perm ((dueP R gs now).map φ):=by
 have n1:(dueP R' (gs.map T) now).Nodup:=(JI (by rw [List.length_map]; exact l6)).filter _
 have n2:((dueP R gs now).map φ).Nodup:=by
  have n0:(dueP R gs now).Nodup:=(JI l6).filter _;refine List.Pairwise.map _ ?_ (List.Pairwise.imp_of_mem (S:=λa b=>φ a≠φ b) ?_ n0)
  ·exact λ_ _ h=>h
  ·intro a b ha hb ne e;refine ne ?_;rw [<- S.inv (z7 a ha),<- S.inv (z7 b hb),e]
 refine (List.perm_ext_iff_of_nodup n1 n2).mpr λq=>?_
 rw [List.mem_map];constructor
 ·intro h;have hq:=z7 q h;rw [List.length_map] at hq;refine ⟨φ q,?_,S.inv hq⟩;rw [<- S.due_mem (S.inn hq),S.inv hq];exact h
 ·rintro ⟨r,hr,rfl⟩;exact (S.due_mem (z7 r hr)).mpr hr
theorem SymP.bx {i:Nat} (h:i < gs.length):bxAt (gs.map T) i=T (bxAt gs i):=by
 unfold bxAt;rw [List.getD_eq_getElem?_getD,List.getElem?_map,List.getD_eq_getElem?_getD,List.getElem?_eq_getElem h];rfl
theorem SymP.ats (t:Rat):(gs.map T).map (atB t)=(gs.map (atB t)).map T:=by
 rw [List.map_map,List.map_map];exact List.map_congr_left λb _=>S.att t b
theorem SymP.crw (l6:gs.length<=6):crwP R' (gs.map T) now=crwP R gs now:=by
 have dp:=S.due (now:=now) l6;have din:∀ q∈dueP R gs now,InP gs.length q:=λq hq=>z7 q hq
 have np:=(numP_perm dp).trans (S.num_map din);have e1:twoP (dueP R' (gs.map T) now)=twoP (dueP R gs now):=by
  unfold twoP;exact decide_eq_decide.mpr (not_congr np.nodup_iff)
 have hm:∀ (bs:List Bq),bs.length=gs.length->hemP R' (bs.map T) (dueP R' (gs.map T) now)=hemP R bs (dueP R gs now):=λbs lb=>by
  rw [Bool.eq_iff_iff];unfold hemP;rw [List.any_eq_true,List.any_eq_true];constructor
  ·rintro ⟨n,hn,z⟩;rw [Bool.and_eq_true,List.any_eq_true] at z;obtain ⟨z1,q,hq,z2⟩:=z;have hn:=zh.mp hn;have hq':=z7 q hq;rw [List.length_map] at hn hq';refine ⟨φ n,zh.mpr (S.inn hn),?_⟩;rw [Bool.and_eq_true,List.any_eq_true];refine ⟨?_,φ q,?_,?_⟩
   ·have e:=S.bes (gs:=bs) (S.inn hn);rw [S.inv hn] at e;exact e.symm.trans z1
   ·rw [<- S.due_mem (S.inn hq'),S.inv hq'];exact hq
   ·rw [lb] at hn;exact (S.adj hq' hn).trans z2
  ·rintro ⟨n,hn,z⟩;rw [Bool.and_eq_true,List.any_eq_true] at z;obtain ⟨z1,q,hq,z2⟩:=z;have hn:=zh.mp hn;have hq':=z7 q hq;refine ⟨φ n,zh.mpr (by rw [List.length_map]; exact S.inn hn),?_⟩
   rw [Bool.and_eq_true,List.any_eq_true];refine ⟨(S.bes (gs:=bs) hn).trans z1,φ q,(S.due_mem hq').mpr hq,?_⟩;rw [lb] at hn;exact (S.adj hq' hn).trans z2
 have cm:∀ (bs:List Bq),cnrP (bs.map T) (dueP R' (gs.map T) now)=cnrP bs (dueP R gs now):=λbs=>by
  rw [Bool.eq_iff_iff];unfold cnrP;simp only [List.any_eq_true,List.mem_range,List.length_map,Bool.and_eq_true,Bool.or_eq_true,decide_eq_true_eq,np.mem_iff];constructor
  ·rintro ⟨o,ho,i,hi,a,b⟩;refine ⟨o,ho,i,hi,a,?_⟩;rw [S.bx (by omega),S.bx ho,S.crn] at b
   exact b
  ·rintro ⟨o,ho,i,hi,a,b⟩;refine ⟨o,ho,i,hi,a,?_⟩;rw [S.bx (by omega),S.bx ho,S.crn]
   exact b
 have cg:∀ p,InP gs.length p->∀ c,cmgP R' (gs.map T) c (φ p)=cmgP R gs c p:=λp hp c=>by
  unfold cmgP;rw [S.jnt hp]
 have cl:∀ c,cloP R' (gs.map T) c=cloP R gs c:=λc=>by
  rw [Bool.eq_iff_iff];unfold cloP;rw [List.any_eq_true,List.any_eq_true];constructor
  ·rintro ⟨n,hn,z⟩;have hn:=zh.mp hn;rw [List.length_map] at hn;have hm:=S.inn hn;refine ⟨φ n,zh.mpr hm,?_⟩;have a:=cg _ hm c;have b:=S.cor (gs:=gs) hm;rw [S.inv hn] at a b;rw [<- a,<- b];exact z
  ·rintro ⟨n,hn,z⟩;have hn:=zh.mp hn;refine ⟨φ n,zh.mpr (by rw [List.length_map]; exact S.inn hn),?_⟩
   rw [cg _ hn,S.cor hn];exact z
 unfold crwP;rw [e1,S.com,S.ats,hm _ (List.length_map _),cm,cl]
theorem list_bx {l l':List Bq} (h:l.length=l'.length) (e:∀ i,i < l.length->bxAt l i=bxAt l' i):l=l':=by
 refine List.ext_getElem h λi h1 h2=>?_
 have z:=e i h1;unfold bxAt at z;rw [List.getD_eq_getElem?_getD,List.getElem?_eq_getElem h1,List.getD_eq_getElem?_getD,List.getElem?_eq_getElem h2] at z;exact z
theorem SymP.on (l6:gs.length<=6) (hw:WtB gs) (c:crwP R gs now=false):onP R' (gs.map T) now=(onP R gs now).map T:=by
 have din:∀ q∈dueP R gs now,InP gs.length q:=λq hq=>z7 q hq
 have din':∀ q∈dueP R' (gs.map T) now,InP (gs.map T).length q:=λq hq=>z7 q hq
 have nd:=(JN c).1;have nd':=(JN (R:=R') (gs:=gs.map T) (now:=now) (by rw [S.crw l6]; exact c)).1
 have np:=(numP_perm (S.due (now:=now) l6)).trans (S.num_map din);obtain ⟨f1,f2,f3⟩:=YM (R:=R) (dueP R gs now) din nd;obtain ⟨g1,g2,g3⟩:=YM (R:=R') (dueP R' (gs.map T) now) din' nd';have len:(onP R gs now).length=gs.length:=yY _ _;have len':(onP R' (gs.map T) now).length=(gs.map T).length:=yY _ _;rw [List.length_map] at len';refine list_bx S (by rw [List.length_map,len,len']) λi hi=>?_
 rw [len'] at hi;rw [S.bx (by rw [len]; exact hi)]
 by_cases b:(i:Int)∈numP (dueP R gs now)
 ·obtain ⟨i0,q,hq,e⟩:=j2.mp b;have hin:=din q hq;have hq':=(S.due_mem (now:=now) hin).mpr hq;have e':(i:Int)=(φ q).2.1\/(i:Int)=(φ q).2.2:=(num_one.mp ((S.num hin).mem_iff.mpr (num_one.mpr ⟨i0,e⟩))).2;have l:bxAt (onP R' (gs.map T) now) i=if (i:Int)=(φ q).2.1 then oneP R' (gs.map T) (φ q) else othP R' (gs.map T) (φ q):=by
   by_cases d:(i:Int)=(φ q).2.1
   ·rw [if_pos d]; exact g1 _ hq' i d
   ·rw [if_neg d];rcases e' with e'|e'
    ·exact absurd e' d
    ·exact g2 _ hq' i e'
  rw [l];obtain ⟨n1,n2⟩:=S.new i hin hw;rcases e with e|e
  ·rw [n1 e];exact congrArg T (f1 q hq i e).symm
  ·rw [n2 e];exact congrArg T (f2 q hq i e).symm
 ·have b':(i:Int)∉numP (dueP R' (gs.map T) now):=λz=>b (np.mem_iff.mp z)
  have a1:bxAt (onP R' (gs.map T) now) i=bxAt (gs.map T) i:=g3 i b';have a2:bxAt (onP R gs now) i=bxAt gs i:=f3 i b;rw [a1,a2,S.bx hi]
end
inductive StpS (φ:Pr->Pr):List (Rat × Pr)->List (Rat × Pr)->Prop
 |nil:StpS φ [] []
 |cons {t:Rat} {ds ds':List Pr} {ms ms':List (Rat × Pr)} (ne:ds≠[]) (l6:ds.length<=6) (pm:ds'.Perm (ds.map φ)) (so:ds'.Pairwise λa b=>lexL (keyI a) (keyI b)=true) (lt:∀ m∈ms,t < m.1) (r:StpS φ ms ms'):StpS φ (ds.map (λp=>(t,p))++ms) (ds'.map (λp=>(t,p))++ms')
theorem run_after {R:Rat × Rat} {gs:List Bq} {now:Rat} {n:Nat} {wd:String} {ms:List (Rat × Pr)} {es:List Bq} {last:Rat} (r:RunP R gs now n wd ms es last):∀ {t:Rat},WtB gs->(∀ T,comP R gs now=some T->t < T)->∀ m∈ms,t < m.1:=by
 induction r with
 |still h=>intro t _ _ m hm; exact absurd hm (List.not_mem_nil)
 |more h=>intro t _ _ m hm; exact absurd hm (List.not_mem_nil)
 |crowd h c=>intro t _ _ m hm; exact absurd hm (List.not_mem_nil)
 |@step gs now T n wd ms es last h c r ih=>
  intro t hw lt m hm;have l:=lt T h;rcases List.mem_append.mp hm with a|a
  ·unfold mtsP at a;obtain ⟨q,_,rfl⟩:=List.mem_map.mp a;rw [h];exact l
  ·have hw':WtB (onP R gs now):=(fold_wtP _ hw λq hq=>z7 q hq)
   have:=ih hw' (λT' h'=>zAH hw h c h') m a
   grind
theorem run_sym {R R':Rat × Rat} {T:Bq->Bq} {φ:Pr->Pr} (S:SymP R R' T φ) {gs:List Bq} {now:Rat} {n:Nat} {wd:String} {ms:List (Rat × Pr)} {es:List Bq} {last:Rat} (r:RunP R gs now n wd ms es last):gs.length<=6->WtB gs->∃ ms',RunP R' (gs.map T) now n wd ms' (es.map T) last/\StpS φ ms ms':=by
 induction r with
 |still h=>intro _ _; exact ⟨[],.still (by rw [S.com]; exact h),.nil⟩
 |more h=>intro _ _; exact ⟨[],.more (by rw [S.com]; exact h),.nil⟩
 |crowd h c=>intro l6 _; exact ⟨[],.crowd (by rw [S.com]; exact h) (by rw [S.crw l6]; exact c),.nil⟩
 |@step gs now t n wd ms es last h c r ih=>
  intro l6 hw;have ln:(onP R gs now).length=gs.length:=yY _ _;have hw':WtB (onP R gs now):=(fold_wtP _ hw λq hq=>z7 q hq)
  obtain ⟨ms',r',st⟩:=ih (by rw [ln]; exact l6) hw'
  have h':comP R' (gs.map T) now=some t:=by rw [S.com]; exact h
  have c':crwP R' (gs.map T) now=false:=by rw [S.crw l6]; exact c
  rw [<- S.on l6 hw c] at r';refine ⟨mtsP R' (gs.map T) now++ms',.step h' c' r',?_⟩;unfold mtsP;rw [h,h'];refine StpS.cons (due_ne h c) (Jp l6 ?_) (S.due l6) ?_ (run_after r hw' λT' h2=>zAH hw h c h2) st
  ·have z:=c;unfold crwP at z;exact (Bool.or_eq_false_iff.mp z).1
  ·exact (prs_rise (by rw [List.length_map]; exact l6)).filter _
noncomputable def xB (b:Bq):Bq:=⟨b.y,b.x,b.h,b.w,b.v,b.u,b.m⟩
noncomputable def xR (R:Rat × Rat):Rat × Rat:=(R.2,R.1)
noncomputable def xP (p:Pr):Pr:=(1 - p.1,p.2.1,p.2.2)
section
variable {R:Rat × Rat} {gs:List Bq}
theorem j5 {b:Bq} {d:Nat} (h:d<=1):(xB b).pl (1 - d)=b.pl d/\(xB b).sz (1 - d)=b.sz d/\(xB b).sp (1 - d)=b.sp d/\(xB b).far (1 - d)=b.far d:=by
 rcases d01 h with rfl|rfl<;>exact ⟨rfl,rfl,rfl,rfl⟩
theorem ZD {d:Nat} (h:d<=1) (i:Int):boxB (xR R) (gs.map xB) (1 - d) i=xB (boxB R gs d i):=by
 unfold boxB;by_cases c:0<=i
 ·rw [if_pos c,if_pos c];unfold bxAt;rw [List.getD_eq_getElem?_getD,List.getElem?_map,List.getD_eq_getElem?_getD];cases gs[i.toNat]?<;>rfl
 ·rw [if_neg c,if_neg c];unfold yh;rcases d01 h with rfl|rfl
  ·show (if i=-1 then _ else _)=xB (if i=-1 then _ else _)
   split<;>rfl
  ·show (if i=-1 then _ else _)=xB (if i=-1 then _ else _)
   split<;>rfl
theorem xb_hic {a b:Bq} {d:Nat} (h:d<=1):hicB (xB a) (xB b) (1 - d)=hicB a b d:=by
 unfold hicB;rw [(j5 h).1,(j5 h).1,(j5 h).2.2.2,(j5 h).2.2.2]
theorem xb_tch {a b:Bq} {d:Nat} (h:d<=1):tchB (xB a) (xB b) (1 - d)=tchB a b d:=by
 unfold tchB;rw [(j5 h).1,(j5 h).2.2.2]
theorem xb_jnt {p:Pr} (h:p.1<=1):jntP (xR R) (gs.map xB) (xP p)=jntP R gs p:=by
 unfold jntP xP;dsimp only;rw [ZD h,ZD h,(j5 h).1,(j5 h).2.2.2,(j5 h).2.2.1,(j5 h).2.2.1]
theorem xb_cor {p:Pr} (h:p.1<=1):corP (xR R) (gs.map xB) (xP p)=corP R gs p:=by
 have a:=xb_jnt (R:=R) (gs:=gs) (p:=(1 - p.1,p.2.1,p.2.2)) (by show 1 - p.1<=1; omega)
 have b:=xb_jnt (R:=R) (gs:=gs) (p:=(1 - p.1,p.2.2,p.2.1)) (by show 1 - p.1<=1; omega)
 unfold corP;rw [xb_jnt h,<- a,<- b];rfl
theorem sym_x:SymP R (xR R) xB xP:=by
 refine ⟨λh=>⟨by show 1 - _<=1; omega,h.2⟩,λ{n p} h=>?_,λh=>xb_jnt h.1,λ{gs t p} h=>?_,λ{gs p} h=>?_,λ{n p q} hp hq=>?_,λh=>List.Perm.refl _,λh=>xb_cor h.1,λa b=>?_,λt b=>rfl,λb=>rfl,λ{gs q} i h hw=>?_⟩
 ·obtain ⟨d,i,j⟩:=p;have:=h.1;replace this:d<=1:=this;show (1 - (1 - d),i,j)=(d,i,j);rw [show 1 - (1 - d)=d by omega]
 ·have d1:=h.1;unfold metP xP;dsimp only;rw [ZD d1,ZD d1];exact xb_hic (a:=atB t (boxB R gs p.1 p.2.1)) (b:=atB t (boxB R gs p.1 p.2.2)) (d:=1 - p.1) (by omega)
 ·have d1:=h.1;unfold besP besB xP;dsimp only;rw [ZD d1,ZD d1,xb_tch d1,xb_hic (d:=1 - p.1) (by omega)]
 ·have a:=hp.1;have b:=hq.1;unfold adjP xP;dsimp only;congr 1;exact decide_eq_decide.mpr ⟨λe=>by omega,λe=>by omega⟩
 ·unfold crnB;have a0:∀ a b:Bq,tchB (xB a) (xB b) 0=tchB a b 1:=λa b=>rfl
  have a1:∀ a b:Bq,tchB (xB a) (xB b) 1=tchB a b 0:=λa b=>rfl
  rw [a0,a0,a1,a1,Bool.and_comm]
 ·have d1:=h.1;have fg:∀ b:Bq,farG (xB b) (1 - q.1)=farG b q.1/\zm (xB b) (1 - q.1)=zm b q.1:=λb=>by
   unfold farG zm;rw [(j5 d1).1,(j5 d1).2.2.1,(j5 d1).2.2.2];exact ⟨rfl,rfl⟩
  have wn:∀ (b:Bq) (g:Rat × Rat),Zg (xB b) (1 - q.1) g=xB (Zg b q.1 g)/\Zk (xB b) (1 - q.1) g=xB (Zk b q.1 g):=λb g=>by
   unfold Zk;rw [(j5 d1).2.1];unfold Zg Bq.with;rcases d01 d1 with e|e<;>rw [e]<;>exact ⟨rfl,rfl⟩
  constructor
  ·intro e;show (if (i:Int)=q.2.1 then _ else _)=_
   rw [if_pos e];unfold oneP xP;dsimp only;rw [ZD d1,ZD d1,(fg _).1,(fg _).2,(wn _ _).2]
  ·intro e;show (if (i:Int)=q.2.1 then _ else _)=_
   rw [if_neg (λz=>h.2.2.2.1 (z.symm.trans e))]
   unfold othP xP;dsimp only;rw [ZD d1,ZD d1,(fg _).1,(fg _).2,(wn _ _).1]
end
noncomputable def mB (R:Rat × Rat) (b:Bq):Bq:=⟨R.1 - b.x - b.w,b.y,b.w,b.h,-b.u,b.v,b.m⟩
noncomputable def mI (i:Int):Int:=if i=-1 then -2 else if i=-2 then -1 else i
noncomputable def mP (p:Pr):Pr:=if p.1=0 then (0,mI p.2.2,mI p.2.1) else p
theorem yf {i:Int} (h:0<=i):mI i=i:=by unfold mI; rw [if_neg (by omega),if_neg (by omega)]
theorem mI_mI (i:Int):mI (mI i)=i:=by
 by_cases a:i=-1
 ·subst a; decide
 ·by_cases b:i=-2
  ·subst b; decide
  ·have e:mI i=i:=by unfold mI; rw [if_neg a,if_neg b]
   rw [e,e]
theorem mI_neg {i:Int} (h:¬ 0<=i):¬ 0<=mI i:=by
 unfold mI;split
 ·decide
 ·split
  ·decide
  ·exact h
theorem mI_inj {i j:Int}:mI i=mI j↔i=j:=⟨λe=>by rw [<- mI_mI i,e,mI_mI],λe=>by rw [e]⟩
section
variable {R:Rat × Rat} {gs:List Bq}
theorem yK {b:Bq}:(mB R b).pl 0=R.1 - b.far 0/\(mB R b).sp 0=-b.sp 0/\(mB R b).far 0=R.1 - b.pl 0:=by
 refine ⟨?_,rfl,?_⟩
 ·show R.1 - b.x - b.w=R.1 - (b.x+b.w);grind
 ·show R.1 - b.x - b.w+b.w=R.1 - b.x;grind
theorem mb_at (t:Rat) (b:Bq):atB t (mB R b)=mB R (atB t b):=by
 show (⟨R.1 - b.x - b.w+-b.u * t,_,_,_,_,_,_⟩:Bq)=⟨R.1 - (b.x+b.u * t) - b.w,_,_,_,_,_,_⟩;rw [show R.1 - b.x - b.w+-b.u * t=R.1 - (b.x+b.u * t) - b.w by grind]
 rfl
theorem mb_bx {i:Nat} (h:i < gs.length):bxAt (gs.map (mB R)) i=mB R (bxAt gs i):=by
 unfold bxAt;rw [List.getD_eq_getElem?_getD,List.getElem?_map,List.getD_eq_getElem?_getD,List.getElem?_eq_getElem h];rfl
theorem jI {i:Int} (h:0<=i->i.toNat < gs.length):boxB R (gs.map (mB R)) 1 i=mB R (boxB R gs 1 i):=by
 unfold boxB;by_cases c:0<=i
 ·rw [if_pos c,if_pos c,mb_bx (h c)]
 ·rw [if_neg c,if_neg c];unfold yh;show (if i=-1 then _ else _)=mB R (if i=-1 then _ else _)
  have e:R.1 - 0 - R.1=0:=by grind
  have z:-(0:Rat)=0:=by grind
  split<;>unfold mB<;>dsimp only<;>rw [e,z]
theorem jH {i:Int} (h:0<=i->i.toNat < gs.length) (w:0<=i\/i=-1\/i=-2):boxB R (gs.map (mB R)) 0 (mI i)=mB R (boxB R gs 0 i):=by
 unfold boxB;by_cases c:0<=i
 ·rw [yf c,if_pos c,if_pos c,mb_bx (h c)]
 ·rw [if_neg (mI_neg c),if_neg c];have z:-(0:Rat)=0:=by grind
  rcases w with w|rfl|rfl
  ·exact absurd w c
  ·show (⟨R.1,0,1,R.2,0,0,none⟩:Bq)=⟨R.1 - -1 - 1,0,1,R.2,-0,0,none⟩;rw [z,show R.1 - -1 - 1=R.1 by grind]
  ·show (⟨-1,0,1,R.2,0,0,none⟩:Bq)=⟨R.1 - R.1 - 1,0,1,R.2,-0,0,none⟩;rw [z,show R.1 - R.1 - 1=-1 by grind]
theorem in_w {n:Nat} {p:Pr} (h:InP n p):(0<=p.2.1\/p.2.1=-1\/p.2.1=-2)/\(0<=p.2.2\/p.2.2=-1\/p.2.2=-2):=by
 obtain ⟨_,a,b,_⟩:=h;constructor
 ·rcases a with a|⟨i,_,a⟩
  ·exact .inr (.inl a)
  ·exact .inl (by omega)
 ·rcases b with b|⟨i,_,b⟩
  ·exact .inr (.inr b)
  ·exact .inl (by omega)
theorem mb_hic0 {a b:Bq}:hicB (mB R a) (mB R b) 0=hicB a b 0:=by
 unfold hicB;rw [yK.1,yK.1,yK.2.2,yK.2.2,Bool.and_comm];congr 1
 ·exact decide_eq_decide.mpr ⟨λe=>by grind,λe=>by grind⟩
 ·exact decide_eq_decide.mpr ⟨λe=>by grind,λe=>by grind⟩
theorem mb_hic1 {a b:Bq}:hicB (mB R a) (mB R b) 1=hicB a b 1:=rfl
theorem mb_tch0 {a b:Bq}:tchB (mB R a) (mB R b) 0=tchB b a 0:=by
 unfold tchB;rw [yK.1,yK.2.2];exact decide_eq_decide.mpr ⟨λe=>by grind,λe=>by grind⟩
theorem mP_0 {p:Pr} (h:p.1=0):mP p=(0,mI p.2.2,mI p.2.1):=by unfold mP; rw [if_pos h]
theorem mP_1 {p:Pr} (h:p.1≠0):mP p=p:=by unfold mP; rw [if_neg h]
theorem mb_in {n:Nat} {p:Pr} (h:InP n p):InP n (mP p):=by
 by_cases c:p.1=0
 ·rw [mP_0 c];obtain ⟨_,a,b,ne,z⟩:=h;refine ⟨by show 0<=1; decide,?_,?_,λe=>ne (mI_inj.mp e).symm,?_⟩
  ·rcases b with b|⟨i,l,b⟩
   ·exact .inl (by show mI p.2.2=-1; rw [b]; rfl)
   ·exact .inr ⟨i,l,by show mI p.2.2=i; rw [yf (by omega)]; exact b⟩
  ·rcases a with a|⟨i,l,a⟩
   ·exact .inl (by show mI p.2.1=-2; rw [a]; rfl)
   ·exact .inr ⟨i,l,by show mI p.2.1=i; rw [yf (by omega)]; exact a⟩
  ·show 0<=mI p.2.2\/0<=mI p.2.1;rcases z with z|z
   ·exact .inr (by rw [yf z]; exact z)
   ·exact .inl (by rw [yf z]; exact z)
 ·rw [mP_1 c];exact h
theorem JJ {p:Pr} (h:InP gs.length p):jntP R (gs.map (mB R)) (mP p)=jntP R gs p:=by
 obtain ⟨w1,w2⟩:=in_w h;by_cases c:p.1=0
 ·rw [mP_0 c];unfold jntP;dsimp only;rw [jH h.l1 w1,jH h.l2 w2,yK.1,yK.2.2,yK.2.1,yK.2.1,c];generalize (boxB R gs 0 p.2.1).sp 0=a;generalize (boxB R gs 0 p.2.2).sp 0=b;by_cases k:a<=b
  ·rw [if_pos k,if_pos (by grind)]
  ·rw [if_neg k,if_neg (by grind)]
   congr 1
   rw [show -b - -a=a - b by grind]
   congr 1
   grind
 ·have d1:p.1=1:=by have:=h.1; omega
  rw [mP_1 c];unfold jntP;rw [d1,jI h.l1,jI h.l2];rfl
theorem mb_met {t:Rat} {p:Pr} (h:InP gs.length p):metP R (gs.map (mB R)) t (mP p)=metP R gs t p:=by
 obtain ⟨w1,w2⟩:=in_w h;by_cases c:p.1=0
 ·rw [mP_0 c];unfold metP;dsimp only;rw [jH h.l1 w1,jH h.l2 w2,mb_at,mb_at,c,ZI];rfl
 ·have d1:p.1=1:=by have:=h.1; omega
  rw [mP_1 c];unfold metP;rw [d1,jI h.l1,jI h.l2,mb_at,mb_at];exact mb_hic0
theorem ptd_ref {c a1 a2 b1 b2:Rat} {m o:Option Int} (wa:1<=m.getD 1) (wb:∀ u,o=some u->1<=u):ptd (c - a1,-a2,m) (c - b1,-b2,o)=(c - (ptd (a1,a2,m) (b1,b2,o)).1,-(ptd (a1,a2,m) (b1,b2,o)).2):=by
 cases o with
 |none=>
  show ((c - b1)+(c - b1) - (c - a1),-(-a2))=(c - (b1+b1 - a1),-(-a2));rw [show (c - b1)+(c - b1) - (c - a1)=c - (b1+b1 - a1) by grind]
 |some u=>
  have u1:=wb u rfl;show (mixQ (c - a1) (c - b1) (m.getD 1) u,mixQ (-a2) (-b2) (m.getD 1) u)=(c - mixQ a1 b1 (m.getD 1) u,-mixQ a2 b2 (m.getD 1) u);generalize m.getD 1=w at wa;have k:((w+u:Int):Rat)≠0:=by
   intro z;have:w+u=0:=Rat.intCast_inj.mp z;omega
  rw [Rat.intCast_add] at k;rw [y7,y7,y7,y7];have e1:(c - a1) * (((w:Rat) - u) / (w+u))+(c - b1) * ((2 * u) / (w+u))=c - (a1 * (((w:Rat) - u) / (w+u))+b1 * ((2 * u) / (w+u))):=by grind
  have e2:-a2 * (((w:Rat) - u) / (w+u))+-b2 * ((2 * u) / (w+u))=-(a2 * (((w:Rat) - u) / (w+u))+b2 * ((2 * u) / (w+u))):=by grind
  rw [e1,e2]
theorem sym_m:SymP R R (mB R) mP:=by
 refine ⟨λh=>mb_in h,λ{n p} h=>?_,λh=>JJ h,λh=>mb_met h,λ{gs p} h=>?_,λ{n p q} hp hq=>?_,λ{n p} h=>?_,λ{gs p} h=>?_,λa b=>?_,λt b=>mb_at t b,λb=>rfl,λ{gs q} i h hw=>?_⟩
 ·obtain ⟨d,i,j⟩:=p;by_cases c:d=0
  ·subst c;rw [mP_0 (p:=(0,i,j)) rfl,mP_0 rfl];show (0,mI (mI i),mI (mI j))=(0,i,j);rw [mI_mI,mI_mI]
  ·rw [mP_1 (p:=(d,i,j)) c,mP_1 c]
 ·obtain ⟨w1,w2⟩:=in_w h;by_cases c:p.1=0
  ·rw [mP_0 c];unfold besP besB;dsimp only;rw [jH h.l1 w1,jH h.l2 w2,mb_tch0,c];show (_ && hicB (mB R _) (mB R _) 1)=(_ && hicB _ _ 1);rw [mb_hic1,ZI]
  ·have d1:p.1=1:=by have:=h.1; omega
   rw [mP_1 c];unfold besP besB;rw [d1,jI h.l1,jI h.l2];show (_ && hicB (mB R _) (mB R _) 0)=(_ && hicB _ _ 0);rw [mb_hic0];rfl
 ·unfold adjP;by_cases c:p.1=0
  ·rw [mP_0 c];by_cases c':q.1=0
   ·rw [mP_0 c'];dsimp only;rw [c,c',Bool.or_comm];congr 2
    ·exact decide_eq_decide.mpr (by rw [mI_inj])
    ·exact decide_eq_decide.mpr (by rw [mI_inj])
   ·rw [mP_1 c'];dsimp only;rw [decide_eq_false (show ¬ (0=q.1) from λe=>c' e.symm),decide_eq_false (show ¬ (p.1=q.1) from λe=>c' (e.symm.trans c))]
    rfl
  ·rw [mP_1 c];by_cases c':q.1=0
   ·rw [mP_0 c'];dsimp only;rw [decide_eq_false (show ¬ (p.1=0) from c),decide_eq_false (show ¬ (p.1=q.1) from λe=>c (e.trans c'))]
    rfl
   ·rw [mP_1 c']
 ·by_cases c:p.1=0
  ·rw [mP_0 c];unfold numP;show (List.filter _ [mI p.2.2,mI p.2.1]).Perm (List.filter _ [p.2.1,p.2.2]);have f:∀ x:Int,List.filter (λi=>decide (0<=i)) [mI x]=List.filter (λi=>decide (0<=i)) [x]:=λx=>by
    by_cases k:0<=x
    ·rw [yf k]
    ·rw [List.filter_cons_of_neg (by simpa using mI_neg k),List.filter_cons_of_neg (by simpa using k)]
   rw [show ([mI p.2.2,mI p.2.1]:List Int)=[mI p.2.2]++[mI p.2.1] from rfl,show ([p.2.1,p.2.2]:List Int)=[p.2.1]++[p.2.2] from rfl,List.filter_append,List.filter_append,f,f];exact List.perm_append_comm
  ·rw [mP_1 c]
 ·by_cases pos:0<=p.2.1/\0<=p.2.2
  ·obtain ⟨i0,k0⟩:=pos;have sw:∀ (d:Nat) (a b:Int),d<=1->0<=a->0<=b->(a=p.2.1/\b=p.2.2\/a=p.2.2/\b=p.2.1)->InP gs.length (d,a,b):=λd a b hd a0 b0 e=>by
    rcases e with ⟨rfl,rfl⟩|⟨rfl,rfl⟩
    ·exact ⟨hd,.inr ⟨_,h.l1 i0,by show p.2.1=_; omega⟩,.inr ⟨_,h.l2 k0,by show p.2.2=_; omega⟩,h.2.2.2.1,.inl i0⟩
    ·exact ⟨hd,.inr ⟨_,h.l2 k0,by show p.2.2=_; omega⟩,.inr ⟨_,h.l1 i0,by show p.2.1=_; omega⟩,λe=>h.2.2.2.1 e.symm,.inl k0⟩
   unfold corP;rw [JJ h];by_cases c:p.1=0
   ·rw [mP_0 c];dsimp only;have a:=JJ (R:=R) (sw 1 p.2.1 p.2.2 (by decide) i0 k0 (.inl ⟨rfl,rfl⟩))
    have b:=JJ (R:=R) (sw 1 p.2.2 p.2.1 (by decide) k0 i0 (.inr ⟨rfl,rfl⟩))
    rw [mP_1 (show (1:Nat)≠0 by decide)] at a b
    rw [yf i0,yf k0,show (1 - 0:Nat)=1 from rfl,a,b,c,decide_eq_true i0,decide_eq_true k0,Bool.or_comm]
   ·have d1:p.1=1:=by have:=h.1; omega
    rw [mP_1 c,d1,show (1 - 1:Nat)=0 from rfl];have a:=JJ (R:=R) (sw 0 p.2.1 p.2.2 (by decide) i0 k0 (.inl ⟨rfl,rfl⟩))
    have b:=JJ (R:=R) (sw 0 p.2.2 p.2.1 (by decide) k0 i0 (.inr ⟨rfl,rfl⟩))
    rw [mP_0 rfl] at a b;replace a:jntP R (gs.map (mB R)) (0,mI p.2.2,mI p.2.1)=_:=a;replace b:jntP R (gs.map (mB R)) (0,mI p.2.1,mI p.2.2)=_:=b;rw [yf i0,yf k0] at a b;rw [a,b,Bool.or_comm]
  ·have ff:∀ (R:Rat × Rat) (gs:List Bq) (q:Pr),¬ (0<=q.2.1/\0<=q.2.2)->corP R gs q=false:=λR gs q n=>by
    unfold corP;by_cases a:0<=q.2.1
    ·rw [decide_eq_true a,decide_eq_false (λb=>n ⟨a,b⟩)]; rfl
    ·rw [decide_eq_false a]; rfl
   rw [ff _ _ _ pos,ff];by_cases c:p.1=0
   ·rw [mP_0 c];rintro ⟨a,b⟩;refine pos ⟨?_,?_⟩
    ·by_cases k:0<=p.2.1
     ·exact k
     ·exact absurd b (mI_neg k)
    ·by_cases k:0<=p.2.2
     ·exact k
     ·exact absurd a (mI_neg k)
   ·rw [mP_1 c];exact pos
 ·unfold crnB;rw [mb_tch0,mb_tch0];show ((tchB b a 0 || tchB a b 0) && (tchB a b 1 || tchB b a 1))=_;rw [Bool.or_comm (tchB b a 0)]
 ·obtain ⟨w1,w2⟩:=in_w h;have x1:=λd=>Jy (R:=R) hw h (i:=q.2.1) (.inl rfl) d
  have x2:=λd=>Jy (R:=R) hw h (i:=q.2.2) (.inr rfl) d
  by_cases c:q.1=0
  ·rw [mP_0 c];dsimp only;have R1:=ptd_ref (c:=R.1) (a1:=(boxB R gs 0 q.2.1).far 0) (a2:=(boxB R gs 0 q.2.1).sp 0) (b1:=(boxB R gs 0 q.2.2).pl 0) (b2:=(boxB R gs 0 q.2.2).sp 0) (x1 0).1 (x2 0).2.1;have R2:=ptd_ref (c:=R.1) (a1:=(boxB R gs 0 q.2.2).pl 0) (a2:=(boxB R gs 0 q.2.2).sp 0) (b1:=(boxB R gs 0 q.2.1).far 0) (b2:=(boxB R gs 0 q.2.1).sp 0) (x2 0).1 (x1 0).2.1;constructor
   ·intro e
    rw [if_neg (λz=>by
     have i0:(0:Int)<=q.2.1:=by omega
     rcases w2 with w|w|w
     ·rw [yf w] at z;exact h.2.2.2.1 (e.symm.trans z)
     ·rw [w] at z;replace z:(i:Int)=-2:=z;omega
     ·rw [w] at z;replace z:(i:Int)=-1:=z
      omega)]
    unfold othP oneP;dsimp only;rw [jH h.l1 w1,jH h.l2 w2,c];unfold zm farG;rw [yK.1,yK.2.1,yK.2.1,yK.2.2];show Zg (mB R (boxB R gs 0 q.2.1)) 0 (ptd (R.1 - (boxB R gs 0 q.2.1).far 0,-(boxB R gs 0 q.2.1).sp 0,(boxB R gs 0 q.2.1).m) (R.1 - (boxB R gs 0 q.2.2).pl 0,-(boxB R gs 0 q.2.2).sp 0,(boxB R gs 0 q.2.2).m))=_;rw [R1];generalize ptd ((boxB R gs 0 q.2.1).far 0,(boxB R gs 0 q.2.1).sp 0,(boxB R gs 0 q.2.1).m) ((boxB R gs 0 q.2.2).pl 0,(boxB R gs 0 q.2.2).sp 0,(boxB R gs 0 q.2.2).m)=g;generalize boxB R gs 0 q.2.1=b;show (⟨R.1 - g.1,b.y,b.w,b.h,-g.2,b.v,b.m⟩:Bq)=⟨R.1 - (g.1 - b.w) - b.w,b.y,b.w,b.h,-g.2,b.v,b.m⟩;rw [show R.1 - (g.1 - b.w) - b.w=R.1 - g.1 by grind]
   ·intro e;rw [if_pos (by rw [yf (by omega)]; exact e)]
    unfold othP oneP;dsimp only;rw [jH h.l1 w1,jH h.l2 w2,c];unfold zm farG;rw [yK.1,yK.2.1,yK.2.1,yK.2.2];show Zk (mB R (boxB R gs 0 q.2.2)) 0 (ptd (R.1 - (boxB R gs 0 q.2.2).pl 0,-(boxB R gs 0 q.2.2).sp 0,(boxB R gs 0 q.2.2).m) (R.1 - (boxB R gs 0 q.2.1).far 0,-(boxB R gs 0 q.2.1).sp 0,(boxB R gs 0 q.2.1).m))=_;rw [R2];generalize ptd ((boxB R gs 0 q.2.2).pl 0,(boxB R gs 0 q.2.2).sp 0,(boxB R gs 0 q.2.2).m) ((boxB R gs 0 q.2.1).far 0,(boxB R gs 0 q.2.1).sp 0,(boxB R gs 0 q.2.1).m)=g;generalize boxB R gs 0 q.2.2=b;rfl
  ·have d1:q.1=1:=by have:=h.1; omega
   rw [mP_1 c];constructor
   ·intro e;rw [if_pos e];unfold oneP;rw [d1,jI h.l1,jI h.l2];rfl
   ·intro e;rw [if_neg (λz=>h.2.2.2.1 (z.symm.trans e))]
    unfold othP;rw [d1,jI h.l1,jI h.l2];rfl
end
section
variable {s:Rat}
end
variable {X:Cx} {pos:Pos}
end Kw
namespace Kw
open PySem PySem.Spec PyProof.Rows L2
section
variable {K:Frag} {H:Hp}
end
section
variable {t:Rat} {gs:List Bod} {now:Rat} {n:Nat} {ms:List (Rat × Rat × Nat)} {b:Bool} {es:List Bod} {last:Rat}
end
section
variable {gs:List Bod} {now:Rat} {n:Nat} {cs:List Rat} {b:Bool}
end
section
variable {X:Cx}
end
section
variable {K:Frag} {H H':Hp} {v:V} {m:Pm} {as:List Addr}
end
section
variable {t:Rat} {gs:List Bod} {now:Rat} {n:Nat} {ms:List (Rat × Rat × Nat)} {b:Bool} {es:List Bod} {last:Rat}
end
section
variable {gs:List Bod} {now:Rat} {n:Nat} {wd:String} {ms:List (Rat × Rat × Nat)} {es:List Bod} {last:Rat}
end
section
variable {gs:List Bod} {now:Rat} {n:Nat} {wd:String} {ms:List (Rat × Rat × Nat)} {es:List Bod} {last:Rat}
end
section
variable {t:Rat}
end
section
variable {α:Type}
end
section
variable {K:Frag} {H H':Hp} {v:V} {c:Clm} {as:List Addr} {n m:Nat}
end
section
variable {K:Frag} {H H':Hp} {bs:List Bod} {kvs:List (List Key × V)} {as:List Addr}
end
section
variable {K:Frag} {H H':Hp} {v:V} {m:Rat × Rat × Nat × Nat} {as:List Addr}
end
section
variable {K:Frag} {H H':Hp} {v:V} {c:Clm} {as:List Addr}
end
section
variable {s u:List Bod} {t p:Rat}
end
section
variable {X:Cx}
end
section
variable {K:Frag} {H H':Hp} {v:V} {c:Int × Rat} {as:List Addr} {n:Nat}
end
noncomputable def isW (k:Str):Value->Bool
 |.str y _=>y == k
 |_=>false
section
variable {X:Cx}
noncomputable def rIndexS:V->List V->Hp->VK->Prop:=λx vs H Q=>∃ (l:Addr) (ss:List Str) (k:Str) (j:Nat),x=.ref l/\vs=[.str k]/\H l=some (.lst (ss.map V.str))/\ss[j]?=some k/\(∀ i,i < j->∀ y,ss[i]?=some y->(y == k)=false)/\Q (.int ((j:Nat):Int)) H
theorem mt_indexS:MtM X "list.index" rIndexS:=by
 intro pins s σ H x vs v us Q I rx rv h;obtain ⟨l,ss,k,j,rfl,rfl,hH,hk,hno,q⟩:=h;cases rx
 obtain ⟨u,rfl,ru⟩:=rv.one;obtain ⟨t,rfl⟩:=ru;obtain ⟨z,its,n,r,hl,e⟩:=I.lstM hH;have at':∀ (i:Nat) (y:Str),ss[i]?=some y->∃ t',its[i]?=some (.str y t'):=λi y hy=>by
  obtain ⟨u,hu,ru⟩:=r.get (show (ss.map V.str)[i]?=some (.str y) by rw [List.getElem?_map,hy]; rfl)
  obtain ⟨t',rfl⟩:=ru;exact ⟨t',hu⟩
 rw [List.length_map] at z hl;have hj:j < ss.length:=(List.getElem?_eq_some_iff.mp hk).1;have s2:=sizeLine_eq;have all:∀ y,y∈its->MeetsSeq.EqGives y (.str k t) (isW k y):=λy hy=>by
  obtain ⟨i,hi,rfl⟩:=List.mem_iff_getElem.mp hy;obtain ⟨t',e'⟩:=at' i ss[i] (List.getElem?_eq_getElem (by omega))
  have e2:its[i]=.str ss[i] t':=by
   rw [List.getElem?_eq_getElem hi] at e';exact Option.some.inj e'
  rw [e2];exact eqGives_str ss[i] k t' t
 refine call_meets PySem.F.slot_list_index ⟨_,e,rfl⟩ PySem.F.entry_list_index (PySem.F.args_list_index_2 _ _)
  (PySem.SeqAt.list_indexAt l its.toArray n none #[] (.str k t) (isW k) j (by simp; omega) (by omega) ?_ ?_) ⟨e,λy hy=>(all y (by simpa using hy)).at _ _,⟨.int ((j:Nat):Int),H,I.tok _,⟨_,rfl⟩,q⟩⟩
 ·obtain ⟨t',e'⟩:=at' j k hk;have e2:its[j]'(by omega)=.str k t':=by
   rw [List.getElem?_eq_getElem (by omega)] at e'
   exact Option.some.inj e'
  show isW k its[j]=true;rw [e2];show (k == k)=true;simp
 ·intro i hlt ij;obtain ⟨t',e'⟩:=at' i (ss[i]'(by omega)) (List.getElem?_eq_getElem (by omega))
  have e2:its[i]'(by omega)=.str (ss[i]'(by omega)) t':=by
   rw [List.getElem?_eq_getElem (by omega)] at e'
   exact Option.some.inj e'
  show isW k its[i]=false;rw [e2];exact hno i ij _ (List.getElem?_eq_getElem (by omega))
end
inductive GrpS:List (Rat × Pr)->List (Rat × Pr)->Prop
 |nil:GrpS [] []
 |cons {t:Rat} {ds ds':List Pr} {ms ms':List (Rat × Pr)} (ne:ds≠[]) (l6:ds.length<=6) (pm:ds'.Perm ds) (so:ds'.Pairwise λa b=>lexL (keyI a) (keyI b)=true) (lt:∀ m∈ms,t < m.1) (r:GrpS ms ms'):GrpS (ds.map (λp=>(t,p))++ms) (ds'.map (λp=>(t,p))++ms')
noncomputable def mapM (φ:Pr->Pr) (ms:List (Rat × Pr)):List (Rat × Pr):=ms.map λm=>(m.1,φ m.2)
theorem stp_grp {φ:Pr->Pr} {ms ms':List (Rat × Pr)} (h:StpS φ ms ms'):GrpS (mapM φ ms) ms':=by
 induction h with
 |nil=>exact .nil
 |@cons t ds ds' ms ms' ne l6 pm so lt r ih=>
  have e:mapM φ (ds.map (λp=>(t,p))++ms)=(ds.map φ).map (λp=>(t,p))++mapM φ ms:=by
   unfold mapM;rw [List.map_append,List.map_map,List.map_map];rfl
  rw [e];refine GrpS.cons (by simpa using ne) (by rw [List.length_map]; exact l6) pm so (λm hm=>?_) ih
  unfold mapM at hm;obtain ⟨x,hx,rfl⟩:=List.mem_map.mp hm;exact lt x hx
theorem filt_eq {t:Rat} {ds:List Pr} {ms:List (Rat × Pr)} (lt:∀ m∈ms,t < m.1):(ds.map (λp=>(t,p))++ms).filter (λm=>decide (m.1=t))=ds.map (λp=>(t,p)):=by
 rw [List.filter_append,List.filter_eq_self.mpr (λm hm=>by
  obtain ⟨p,_,rfl⟩:=List.mem_map.mp hm;exact decide_eq_true rfl),List.filter_eq_nil_iff.mpr (λm hm=>by
  have:=lt m hm;simp only [decide_eq_true_eq]
  grind),List.append_nil]
theorem filt_ne {t:Rat} {ds:List Pr} {ms:List (Rat × Pr)} (lt:∀ m∈ms,t < m.1):(ds.map (λp=>(t,p))++ms).filter (λm=>!decide (m.1=t))=ms:=by
 rw [List.filter_append,List.filter_eq_nil_iff.mpr (λm hm=>by
  obtain ⟨p,_,rfl⟩:=List.mem_map.mp hm
  simp),List.nil_append]
 refine List.filter_eq_self.mpr λm hm=>?_
 have:=lt m hm;rw [decide_eq_false (by grind)]
 rfl
theorem YH {α:Type} {xs:List α} {p:α->Bool} {i:Nat} {x:α} (h:xs[i]?=some x):(xs.take (i+1)).filter p=(xs.take i).filter p++(if p x=true then [x] else []):=by
 rw [zU h,List.filter_append];congr 1;cases e:p x<;>simp [e]
section
variable {R:Rat × Rat} {gs:List Bq} {B:Nat}
theorem app_map {T:Bq->Bq} (h:∀ a b,(hicB (T a) (T b) 0 && hicB (T a) (T b) 1)=(hicB a b 0 && hicB a b 1)) (ap:App gs) (bx:∀ i,i < gs.length->bxAt (gs.map T) i=T (bxAt gs i)):App (gs.map T):=λi j ij jl=>by
 rw [List.length_map] at jl;rw [bx i (by omega),bx j jl,h]
 exact ap i j ij jl
theorem wt_map {T:Bq->Bq} (h:∀ b,(T b).m=b.m) (w:WtB gs):WtB (gs.map T):=λb hb=>by
 obtain ⟨c,hc,rfl⟩:=List.mem_map.mp hb;rw [h];exact w c hc
theorem gd_x (h:GdP R gs):GdP (xR R) (gs.map xB):=by
 refine ⟨h.r2,h.r1,by rw [List.length_map]; exact h.l1,by rw [List.length_map]; exact h.l6,wt_map (λ_=>rfl) h.wt,λc hc=>?_,?_⟩
 ·obtain ⟨b,hb,rfl⟩:=List.mem_map.mp hc;obtain ⟨a1,a2,a3,a4,a5,a6⟩:=h.al b hb;exact ⟨a2,a1,a4,a3,a6,a5⟩
 ·refine app_map (λa b=>?_) h.ap (λi hi=>(sym_x (R:=R)).bx hi)
  show (hicB a b 1 && hicB a b 0)=_;rw [Bool.and_comm]
theorem gd_m (h:GdP R gs):GdP R (gs.map (mB R)):=by
 refine ⟨h.r1,h.r2,by rw [List.length_map]; exact h.l1,by rw [List.length_map]; exact h.l6,wt_map (λ_=>rfl) h.wt,λc hc=>?_,?_⟩
 ·obtain ⟨b,hb,rfl⟩:=List.mem_map.mp hc;obtain ⟨a1,a2,a3,a4,a5,a6⟩:=h.al b hb;have a5:b.x+b.w<=R.1:=a5;refine ⟨a1,a2,?_,a4,?_,a6⟩
  ·show 0<=R.1 - b.x - b.w;grind
  ·show R.1 - b.x - b.w+b.w<=R.1;grind
 ·refine app_map (λa b=>?_) h.ap (λi hi=>mb_bx hi)
  rw [mb_hic0,mb_hic1]
theorem cm_x (h:CmP B R gs):CmP B (xR R) (gs.map xB):=by
 obtain ⟨D,d1,dB,r1,r2,al⟩:=h;refine ⟨D,d1,dB,r2,r1,λc hc=>?_⟩
 obtain ⟨b,hb,rfl⟩:=List.mem_map.mp hc;obtain ⟨a1,a2,a3,a4,a5,a6⟩:=al b hb;exact ⟨a2,a1,a4,a3,a6,a5⟩
theorem cm_m (h:CmP B R gs):CmP (B+2) R (gs.map (mB R)):=by
 obtain ⟨D,d1,dB,r1,r2,al⟩:=h;have up:(2:Nat) ^ B<=2 ^ (B+2):=Nat.pow_le_pow_right (by decide) (by omega)
 refine ⟨D,d1,by omega,r1.mono (by omega),r2.mono (by omega),λc hc=>?_⟩
 obtain ⟨b,hb,rfl⟩:=List.mem_map.mp hc;obtain ⟨a1,a2,a3,a4,a5,a6⟩:=al b hb;exact ⟨(r1.sub a1).sub (a3.mono (by omega)),a2.mono (by omega),a3.mono (by omega),a4.mono (by omega),(a5.neg).mono (by omega),a6.mono (by omega)⟩
end
theorem RunP.one {R:Rat × Rat} {gs:List Bq} {now:Rat} {n:Nat} {wd:String} {ms:List (Rat × Pr)} {es:List Bq} {last:Rat} (r:RunP R gs now n wd ms es last):∀ {wd':String} {ms':List (Rat × Pr)} {es':List Bq} {last':Rat},RunP R gs now n wd' ms' es' last'->wd'=wd/\ms'=ms/\es'=es/\last'=last:=by
 induction r with
 |still h=>
  intro _ _ _ _ r';cases r' with
  |still _=>exact ⟨rfl,rfl,rfl,rfl⟩
  |more h'=>rw [h] at h'; cases h'
  |crowd h' _=>rw [h] at h'; cases h'
  |step h' _ _=>rw [h] at h'; cases h'
 |more h=>
  intro _ _ _ _ r';cases r' with
  |still h'=>rw [h] at h'; cases h'
  |more _=>exact ⟨rfl,rfl,rfl,rfl⟩
 |crowd h c=>
  intro _ _ _ _ r';cases r' with
  |still h'=>rw [h] at h'; cases h'
  |crowd _ _=>exact ⟨rfl,rfl,rfl,rfl⟩
  |step _ c' _=>rw [c] at c'; cases c'
 |step h c r ih=>
  intro _ _ _ _ r';cases r' with
  |still h'=>rw [h] at h'; cases h'
  |crowd _ c'=>rw [c] at c'; cases c'
  |step h' _ r2=>
   rw [h] at h';cases h'
   obtain ⟨e1,e2,e3,e4⟩:=ih r2;subst e1;subst e2;subst e3;subst e4;exact ⟨rfl,rfl,rfl,rfl⟩
theorem tlp_sym {R R':Rat × Rat} {T:Bq->Bq} {φ:Pr->Pr} (S:SymP R R' T φ) {gs:List Bq} {n:Nat} {wd wd':String} {ms iC:List (Rat × Pr)} {es es':List Bq} {last last':Rat} (l6:gs.length<=6) (hw:WtB gs) (r:RunP R gs 0 n wd ms es last) (r':RunP R' (gs.map T) 0 n wd' iC es' last'):GrpS (mapM φ ms) iC/\wd'=wd/\last'=last/\es'.map (atB last')=(es.map (atB last)).map T:=by
 obtain ⟨ms',q,st⟩:=run_sym S r l6 hw;obtain ⟨e1,e2,e3,e4⟩:=q.one r';subst e1;subst e2;subst e3;subst e4;exact ⟨stp_grp st,rfl,rfl,S.ats _⟩
end Kw
namespace Prf
open PySem PySem.Spec PyProof.Rows L2 Kw
noncomputable def top (i:Nat):Stmt:=PySem.Challenge.pw_knockwright_k78_whole_seen_otherwise.main.body.getD i (.Pass ⟨0,0,0,0⟩)
structure Tx (K:Frag) (mg:Str->Option Value) (C:Nat->Addr):Prop where
 b_isinstance:mg "isinstance"=none
 b_int:mg "int"=none
 b_bool:mg "bool"=none
 b_tuple:mg "tuple"=none
 b_list:mg "list"=none
 b_abs:mg "abs"=none
 b_len:mg "len"=none
 b_divmod:mg "divmod"=none
 b_range:mg "range"=none
 b_max:mg "max"=none
 b_min:mg "min"=none
 b_all:mg "all"=none
 b_any:mg "any"=none
 b_sorted:mg "sorted"=none
 b_set:mg "set"=none
 c_Plane:mg "Plane"=some (.ref (C 0))
 cl_Plane:Cls K (C 0)
 mk_Plane:makesIn K (C 0)=true
 kp_Plane:keepIn K (.ref (C 0))=true
 n_Plane_walls:yy K (C 0) "walls"
 n_Plane_goings:yy K (C 0) "goings"
 n_Plane_now:yy K (C 0) "now"
 n_Plane_gone_through:yy K (C 0) "gone_through"
 n_Plane_joints:yy K (C 0) "joints"
 n_Plane_coming:yy K (C 0) "coming"
 n_Plane_due:yy K (C 0) "due"
 k_LONG_BITS:∃ t,mg "LONG_BITS"=some (.int 4000 t)
 k_NOUGHT:∃ N,mg "NOUGHT"=some (.ref N)/\∀ H,SqT K H N [.int 0,.int 1]
 k_ACROSS:∃ t,mg "ACROSS"=some (.int 0 t)
 k_ALONG:∃ t,mg "ALONG"=some (.int 1 t)
 k_SIZES:∃ t,mg "SIZES"=some (.int 2 t)
 k_SPEEDS:∃ t,mg "SPEEDS"=some (.int 4 t)
 k_ALL:∃ N,mg "ALL"=some (.ref N)/\∀ H,SqT K H N [.int 1,.int 1]
 k_WORDS:∃ N,mg "WORDS"=some (.ref N)/\∀ H,SqT K H N ((["across","along"]:List String).map strV)
 k_NEAR_WALL:∃ t,mg "NEAR_WALL"=some (.int (-1) t)
 k_FAR_WALL:∃ t,mg "FAR_WALL"=some (.int (-2) t)
 k_MOST_WEIGHT:∃ t,mg "MOST_WEIGHT"=some (.int 1000 t)
 k_MOST_BOXES:∃ t,mg "MOST_BOXES"=some (.int 6 t)
 k_MOST_MOMENTS:∃ t,mg "MOST_MOMENTS"=some (.int 40 t)
section
variable {P:Program} {w:World} {K:Frag} {mg:Str->Option Value} {base:Heap} {C:Nat->Addr}
theorem all_go {tb:TS} {D:Ends} {σ:L2.St} {H:Hp} (h:∀ E:Ends,(∀ σ H,D.nx σ H->E.nx σ H)->(∀ v H,D.rt v H->E.rt v H)->(∀ σ H,D.bk σ H->E.bk σ H)->(∀ σ H,D.ct σ H->E.ct σ H)->tb E σ H):tb D σ H:=h D (λ_ _ z=>z) (λ_ _ z=>z) (λ_ _ z=>z) (λ_ _ z=>z)
theorem sc_is_whole:FnScope ["thing"] ["thing"] (zD (top 9)):={}
theorem ok_is_whole (D:Df K mg "is_whole" (top 9) ["thing"]) (T:Tx K mg C):Fn P w K mg base 1 "is_whole" ["thing"] (JC K):=by
 refine D.ok0 sc_is_whole (λvs H Q E h=>?_) (λf cdv A outer s H vs Q E hr h=>?_)
 ·obtain ⟨x,t,b1,b2,rfl,_⟩:=h;rfl
 obtain ⟨x,t,b1,b2,rfl,ty,k1,k2,q⟩:=h;refine ⟨_,(zF (zL (yg (zY jv (by rfl) T.b_isinstance PyProof.Rows.Boot.«isinstance» (zA (pv 0) (zA (JM (by rfl) T.b_int PyProof.Rows.Boot.«int») zB))) (yS (pe_not (zY jv (by rfl) T.b_isinstance PyProof.Rows.Boot.«isinstance» (zA (pv 0) (zA (JM (by rfl) T.b_bool PyProof.Rows.Boot.«bool») zB)))))))),?_⟩
 try dsimp only [cxK,cxK0]
 refine ⟨_,rfl,x,_,b1,rfl,.inl ⟨_,rfl⟩,⟨t,ty,k1⟩,b1,rfl,?_⟩;cases b1 with
 |false=>exact iteF q
 |true=>exact iteT ⟨_,rfl,x,_,b2,rfl,.inl ⟨_,rfl⟩,⟨t,ty,k2⟩,b2,rfl,q⟩
theorem zv:FnScope ["one","other","great","small","steps","rest"] ["one","other"] (zD (top 11)):={}
theorem ok_common_divisor (D:Df K mg "common_divisor" (top 11) ["one","other"]) (T:Tx K mg C):Fn P w K mg base 1 "common_divisor" ["one","other"] Ju:=by
 refine D.ok0 zv (λvs H Q E h=>?_) (λf cdv A outer s H vs Q E hr h=>?_)
 ·obtain ⟨a,b,rfl,_⟩:=h;rfl
 obtain ⟨a,b,rfl,hb,q⟩:=h
 refine ⟨_,(zE (zM (i:=2) zv.nd rfl (Or.inl rfl) (zY Y1 (by rfl) T.b_abs PyProof.Rows.Boot.«abs» (zA (pv 0) zB)))
   (zE (zM (i:=3) zv.nd rfl (Or.inl rfl) (zY Y1 (by rfl) T.b_abs PyProof.Rows.Boot.«abs» (zA (pv 1) zB)))
   (zE (Z2 PassesOwn.never (zR op_gt (pe_bm0 PySem.F.plainAttrs_int PySem.F.slot_int_bit_length PySem.F.type_int_bit_length mt_bits (zY (call_min2 rfl) (by rfl) T.b_min PyProof.Rows.Boot.«min» (zA (pv 2) (zA (pv 3) zB)))) (zZ (by rfl) T.k_LONG_BITS) (zS _)) pss_never)
   (zE (Z2 PassesOwn.never (zR op_gt (pv 3) zC (zS _)) (zE (zM (i:=5) zv.nd rfl (Or.inl rfl) (zP J0 (pv 2) (pv 3)))
   (zE (zM (i:=2) zv.nd rfl (Or.inl rfl) (pv 3))
   (zF (zM (i:=3) zv.nd rfl (Or.inl rfl) (pv 5))))))
   (zF (zL (pv 2))))))),?_⟩
 try dsimp only [cxK,cxK0]
 refine ⟨_,rfl,_,rfl,_,rfl,_,rfl,?_⟩;refine ⟨λm σ' H'=>∃ r1 r2:Option V,σ'=[some (.int a),some (.int b),some (.int (if a < 0 then -a else a)),some (.int (if b < 0 then -b else b)),r1,r2]/\H'=H,⟨0,_,_,rfl,rfl⟩,?_⟩
 rintro m σ' H' ⟨r1,r2,rfl,rfl⟩;refine ⟨_,rfl,_,rfl,_,_,rfl,rfl,_,rfl,rfl,_,_,rfl,rfl,_,rfl,?_⟩;refine zd (λc=>absurd c (short_min hb)) (λ_=>?_)
 refine ⟨λm σ' H2=>∃ g s:Int,∃ r1 r2:Option V,σ'=[some (.int a),some (.int b),some (.int g),some (.int s),r1,r2]/\H2=H'/\0<=g/\0<=s/\m=s.toNat/\Int.gcd g s=Int.gcd a b,⟨_,_,_,_,_,rfl,rfl,abs_nn a,abs_nn b,rfl,gcd_abs a b⟩,?_⟩
 rintro m σ' H2 ⟨g,s,r1,r2,rfl,rfl,hg,hs,rfl,e⟩;refine ⟨_,rfl,_,_,rfl,rfl,_,rfl,?_⟩;refine zd (λc=>?_) (λc=>?_)
 ·refine ⟨_,λ_ _ n=>n,?_⟩
  refine ⟨_,rfl,_,rfl,_,_,rfl,rfl,c,_,rfl,_,rfl,?_⟩;have l:=Int.emod_lt_of_pos g c;have l0:=Int.emod_nonneg g (show s≠0 by omega)
  exact ⟨_,by omega,s,g % s,_,_,rfl,rfl,by omega,l0,rfl,(gcd_step g s hg c).trans e⟩
 ·refine ⟨_,rfl,?_⟩;have s0:s=0:=by omega
  subst s0;have z:=gcd_end g hg;rw [e] at z;rw [<- z];exact q
noncomputable def Je (K:Frag):Sp:=λvs H Q _=>∃ (a:Int) (b:Int),vs=[.int a,.int b]/\Bd 4000 b/\b≠0/\(∀ (p_r:Addr) (H1:Hp),Same H H1->FQ K H1 p_r (Rat.divInt a b)->Q (.ref p_r) H1)
theorem Zs:FnScope ["top","bottom","divisor"] ["top","bottom"] (zD (top 13)):={}
theorem ok_fraction (D:Df K mg "fraction" (top 13) ["top","bottom"]) (T:Tx K mg C) (ak:Fn P w K mg base 1 "is_whole" ["thing"] (JC K)) (ad:Fn P w K mg base 1 "common_divisor" ["one","other"] Ju) :
  Fn P w K mg base 2 "fraction" ["top","bottom"] (Je K):=by
 refine D.ok0 Zs (λvs H Q E h=>?_) (λf cdv A outer s H vs Q E hr h=>?_)
 ·obtain ⟨a,b,rfl,_⟩:=h;rfl
 obtain ⟨a,b,rfl,hb,c,hq⟩:=h
 refine ⟨_,(zE (zf (jz (yR (zn (zI ak (by decide) hr (by rfl) zG (zA (pv 0) zB)) (λ_=>rfl))) (yt (yR (zn (zI ak (by decide) hr (by rfl) zG (zA (pv 1) zB)) (λ_=>rfl))))).pt (zF jO) zX)
   (zE (zf (zR jh (pv 1) zC (zS _)) (zF jO) zX)
   (zE (zM (i:=2) Zs.nd rfl (Or.inl rfl) (zI ad (by decide) hr (by rfl) zG (zA (pv 0) (zA (pv 1) zB))))
   (zE (zf (zR Y6 (pv 1) zC (zS _)) (zF (zM (i:=2) Zs.nd rfl (Or.inl rfl) (YR ZE (pv 2)))) zX)
   (zF (zL (zQ (zA (zP yE (pv 0) (pv 2)) (zA (zP yE (pv 1) (pv 2)) zB))))))))),?_⟩
 try dsimp only [cxK,cxK0]
 refine ⟨_,rfl,_,_,true,false,rfl,.int a,yq,yW,_,rfl,?_⟩;refine iteF ⟨_,rfl,_,_,true,false,rfl,.int b,yq,yW,_,rfl,?_⟩;refine iteF ⟨_,rfl,rfl,_,rfl,?_⟩;refine yr (λz=>absurd z c) (λ_=>?_)
 refine ⟨_,rfl,_,rfl,a,b,rfl,hb,?_⟩;have hd:(if b < 0 then -((Int.gcd a b:Nat):Int) else ((Int.gcd a b:Nat):Int))=dv a b:=rfl
 have lg:=(bd_dv (t:=a) c (hb.mono (n:=9000) (by decide))).log
 refine ⟨_,rfl,_,_,rfl,rfl,_,rfl,?_⟩;refine zd (λn=>?_) (λn=>?_)
 ·rw [if_pos n] at hd;refine ⟨_,rfl,_,rfl,?_⟩;dsimp only;rw [hd];refine ⟨_,rfl,_,rfl,_,_,rfl,rfl,⟨Zl c,lg⟩,_,rfl,_,rfl,_,_,rfl,rfl,⟨Zl c,lg⟩,by show 2<=sizeLine; decide,?_⟩
  exact JK λp H' sm hp=>hq p H' sm (FQ.fit c (SqT.of hp))
 ·rw [if_neg n] at hd;rw [hd];refine ⟨_,rfl,_,rfl,_,_,rfl,rfl,⟨Zl c,lg⟩,_,rfl,_,rfl,_,_,rfl,rfl,⟨Zl c,lg⟩,by show 2<=sizeLine; decide,?_⟩
  exact JK λp H' sm hp=>hq p H' sm (FQ.fit c (SqT.of hp))
noncomputable def YJ (K:Frag):Sp:=λvs H Q _=>∃ (p_x:Addr) (x:Rat) (p_y:Addr) (y:Rat),vs=[.ref p_x,.ref p_y]/\FQ K H p_x x/\FB 8900 x/\FQ K H p_y y/\FB 4000 y/\(∀ (p_r:Addr) (H1:Hp),Same H H1->FQ K H1 p_r (x+y)->Q (.ref p_r) H1)
theorem Jm:FnScope ["one","other","shared","top","divisor"] ["one","other"] (zD (top 14)):={}
theorem ok_plus (D:Df K mg "plus" (top 14) ["one","other"]) (T:Tx K mg C) (ad:Fn P w K mg base 1 "common_divisor" ["one","other"] Ju):Fn P w K mg base 2 "plus" ["one","other"] (YJ K):=by
 refine D.ok0 Jm (λvs H Q E h=>?_) (λf cdv A outer s H vs Q E hr h=>?_)
 ·obtain ⟨p,x,q,y,rfl,_⟩:=h;rfl
 obtain ⟨p,x,q,y,rfl,hp,⟨ha,hb⟩,hq,⟨hc,hd⟩,k⟩:=h
 refine ⟨_,(zE (zM (i:=2) Jm.nd rfl (Or.inl rfl) (zI ad (by decide) hr (by rfl) zG (zA (zH ix_tup (pv 0) zC (λ_ _=>rfl)) (zA (zH ix_tup (pv 1) zC (λ_ _=>rfl)) zB))))
   (zE (zM (i:=3) Jm.nd rfl (Or.inl rfl) (zP zt (zP zc (zH ix_tup (pv 0) zC (λ_ _=>rfl)) (zP yE (zH ix_tup (pv 1) zC (λ_ _=>rfl)) (pv 2))) (zP zc (zH ix_tup (pv 1) zC (λ_ _=>rfl)) (zP yE (zH ix_tup (pv 0) zC (λ_ _=>rfl)) (pv 2)))))
   (zE (zM (i:=4) Jm.nd rfl (Or.inl rfl) (zI ad (by decide) hr (by rfl) zG (zA (pv 3) (zA (pv 2) zB))))
   (zF (zL (zQ (zA (zP yE (pv 3) (pv 4)) (zA (zP zc (zP yE (zH ix_tup (pv 0) zC (λ_ _=>rfl)) (pv 2)) (zP yE (zH ix_tup (pv 1) zC (λ_ _=>rfl)) (pv 4))) zB)))))))),?_⟩
 try dsimp only [cxK,cxK0]
 refine ⟨_,rfl,p,_,_,_,rfl,rfl,hp,rfl,_,rfl,q,_,_,_,rfl,rfl,hq,rfl,_,_,rfl,hd,?_⟩;have g0:=gpos (a:=((x.den:Nat):Int)) (q_ne y);have bg:=Jh (a:=((x.den:Nat):Int)) (q_ne y) hd;have EW:(((Int.gcd ((x.den:Nat):Int) ((y.den:Nat):Int):Nat):Int)) ∣ ((x.den:Nat):Int):=Int.gcd_dvd_left ..;have oR:(((Int.gcd ((x.den:Nat):Int) ((y.den:Nat):Int):Nat):Int)) ∣ ((y.den:Nat):Int):=Int.gcd_dvd_right ..;generalize hg:((Int.gcd ((x.den:Nat):Int) ((y.den:Nat):Int):Nat):Int)=g at g0 bg EW oR ⊢;have g1:g≠0:=by omega
 have lg:=(bg.mono (n:=9000) (by decide)).log
 have b1:=ZY hd oR g1;have b2:=ZY hb EW g1;refine ⟨_,rfl,p,_,_,_,rfl,rfl,hp,rfl,_,rfl,q,_,_,_,rfl,rfl,hq,rfl,_,rfl,_,_,rfl,rfl,⟨g1,lg⟩,_,_,rfl,rfl,ha.ok b1 (by decide),_,rfl,q,_,_,_,rfl,rfl,hq,rfl,_,rfl,p,_,_,_,rfl,rfl,hp,rfl,_,rfl,_,_,rfl,rfl,⟨g1,lg⟩,_,_,rfl,rfl,hc.ok b2 (by decide),_,_,rfl,rfl,?_⟩
 dsimp only;have bt:=(ha.mul b1).add (hc.mul b2);generalize ht:x.num * ((y.den:Nat):Int).fdiv g+y.num * ((x.den:Nat):Int).fdiv g=t at bt ⊢;refine ⟨_,rfl,_,rfl,_,_,rfl,bg,?_⟩;have h0:=gpos (a:=t) g1;have bh:=Jh (a:=t) g1 bg;have dh:((Int.gcd t g:Nat):Int) ∣ g:=Int.gcd_dvd_right ..;generalize hh:((Int.gcd t g:Nat):Int)=h at h0 bh dh ⊢;have h1:h≠0:=by omega
 have lh:=(bh.mono (n:=9000) (by decide)).log
 have b3:=ZY hd (Int.dvd_trans dh oR) h1;refine ⟨_,rfl,_,rfl,_,_,rfl,rfl,⟨h1,lh⟩,_,rfl,p,_,_,_,rfl,rfl,hp,rfl,_,rfl,_,_,rfl,rfl,⟨g1,lg⟩,_,rfl,q,_,_,_,rfl,rfl,hq,rfl,_,rfl,_,_,rfl,rfl,⟨h1,lh⟩,_,_,rfl,rfl,b2.ok b3 (by decide),by show 2<=sizeLine; decide,?_⟩
 refine JK λr H1 sm dO=>k r H1 sm ?_
 obtain ⟨e1,e2⟩:=q_plus x y g t h hg.symm ht.symm hh.symm;have z:=SqT.of (K:=K) dO;dsimp only at z;rw [e1,e2] at z;exact z
noncomputable def YC (K:Frag):Sp:=λvs H Q _=>∃ (p_x:Addr) (x:Rat) (p_y:Addr) (y:Rat),vs=[.ref p_x,.ref p_y]/\FQ K H p_x x/\FB 8900 x/\FQ K H p_y y/\FB 4000 y/\(∀ (p_r:Addr) (H1:Hp),Same H H1->FQ K H1 p_r (x - y)->Q (.ref p_r) H1)
theorem sc_minus:FnScope ["one","other"] ["one","other"] (zD (top 15)):={}
theorem ok_minus (D:Df K mg "minus" (top 15) ["one","other"]) (T:Tx K mg C) (aN:Fn P w K mg base 2 "plus" ["one","other"] (YJ K)):Fn P w K mg base 3 "minus" ["one","other"] (YC K):=by
 refine D.ok0 sc_minus (λvs H Q E h=>?_) (λf cdv A outer s H vs Q E hr h=>?_)
 ·obtain ⟨p_x,x,p_y,y,rfl,_⟩:=h;rfl
 obtain ⟨p_x,x,p_y,y,rfl,g_x,d_x,g_y,d_y,k0⟩:=h;refine ⟨_,(zF (zL (zI aN (by decide) hr (by rfl) zG (zA (pv 0) (zA (zQ (zA (YR ZE (zH ix_tup (pv 1) zC (λ_ _=>rfl))) (zA (zH ix_tup (pv 1) zC (λ_ _=>rfl)) zB))) zB))))),?_⟩
 try dsimp only [cxK,cxK0]
 refine ⟨_,rfl,_,rfl,p_y,_,_,_,rfl,rfl,g_y,rfl,_,rfl,_,rfl,p_y,_,_,_,rfl,rfl,g_y,rfl,by show 2<=sizeLine; decide,?_⟩
 intro p1 n1;obtain ⟨H1,q1,s1,e1⟩:=newO n1 (.tup [.int ((-(y).num)),.int ((((y).den:Nat):Int))]);rw [q1];clear q1;have h1:=SqT.of (K:=K) e1;have g1:FQ K H1 p1 (-(y)):=by exact FQ.ofNeg h1 (by omega)
 replace g_x:=(Kw.Same.tup s1 g_x);refine ⟨_,_,_,_,rfl,g_x,(FB.mono d_x (by decide)),g1,(FB.mono (FB.neg d_y) (by decide)),λp_r2 H2 s2 g_r2=>?_⟩
 have d_r2:FB 12901 (x+((-(y)))):=(FB.mono (FB.add d_x (FB.neg d_y)) (by decide))
 have e3:((x+((-(y)))):Rat)=x - y:=by grind
 exact k0 _ _ (s1.trans s2) (FQ.cast g_r2 e3)
noncomputable def JA (K:Frag):Sp:=λvs H Q _=>∃ (p_x:Addr) (x:Rat) (p_y:Addr) (y:Rat),vs=[.ref p_x,.ref p_y]/\FQ K H p_x x/\FB 4000 x/\FQ K H p_y y/\FB 4000 y/\(∀ (p_r:Addr) (H1:Hp),Same H H1->FQ K H1 p_r (x * y)->Q (.ref p_r) H1)
theorem sc_times:FnScope ["one","other","first","second"] ["one","other"] (zD (top 16)):={}
theorem ok_times (D:Df K mg "times" (top 16) ["one","other"]) (T:Tx K mg C) (ad:Fn P w K mg base 1 "common_divisor" ["one","other"] Ju):Fn P w K mg base 2 "times" ["one","other"] (JA K):=by
 refine D.ok0 sc_times (λvs H Q E h=>?_) (λf cdv A outer s H vs Q E hr h=>?_)
 ·obtain ⟨p,x,q,y,rfl,_⟩:=h;rfl
 obtain ⟨p,x,q,y,rfl,hp,⟨ha,hb⟩,hq,⟨hc,hd⟩,k⟩:=h
 refine ⟨_,(zE (zM (i:=2) sc_times.nd rfl (Or.inl rfl) (zI ad (by decide) hr (by rfl) zG (zA (zH ix_tup (pv 0) zC (λ_ _=>rfl)) (zA (zH ix_tup (pv 1) zC (λ_ _=>rfl)) zB))))
   (zE (zM (i:=3) sc_times.nd rfl (Or.inl rfl) (zI ad (by decide) hr (by rfl) zG (zA (zH ix_tup (pv 1) zC (λ_ _=>rfl)) (zA (zH ix_tup (pv 0) zC (λ_ _=>rfl)) zB))))
   (zF (zL (zQ (zA (zP zc (zP yE (zH ix_tup (pv 0) zC (λ_ _=>rfl)) (pv 2)) (zP yE (zH ix_tup (pv 1) zC (λ_ _=>rfl)) (pv 3))) (zA (zP zc (zP yE (zH ix_tup (pv 0) zC (λ_ _=>rfl)) (pv 3)) (zP yE (zH ix_tup (pv 1) zC (λ_ _=>rfl)) (pv 2))) zB))))))),?_⟩
 try dsimp only [cxK,cxK0]
 refine ⟨_,rfl,p,_,_,_,rfl,rfl,hp,rfl,_,rfl,q,_,_,_,rfl,rfl,hq,rfl,_,_,rfl,hd,?_⟩;have f0:=gpos (a:=x.num) (q_ne y);have bf:=Jh (a:=x.num) (q_ne y) hd;have EX:((Int.gcd x.num ((y.den:Nat):Int):Nat):Int) ∣ x.num:=Int.gcd_dvd_left ..;have EY:((Int.gcd x.num ((y.den:Nat):Int):Nat):Int) ∣ ((y.den:Nat):Int):=Int.gcd_dvd_right ..;generalize hf:((Int.gcd x.num ((y.den:Nat):Int):Nat):Int)=f1 at f0 bf EX EY ⊢;refine ⟨_,rfl,q,_,_,_,rfl,rfl,hq,rfl,_,rfl,p,_,_,_,rfl,rfl,hp,rfl,_,_,rfl,hb,?_⟩;have s0:=gpos (a:=y.num) (q_ne x);have bs:=Jh (a:=y.num) (q_ne x) hb;have EZ:((Int.gcd y.num ((x.den:Nat):Int):Nat):Int) ∣ y.num:=Int.gcd_dvd_left ..;have E1:((Int.gcd y.num ((x.den:Nat):Int):Nat):Int) ∣ ((x.den:Nat):Int):=Int.gcd_dvd_right ..;generalize hs:((Int.gcd y.num ((x.den:Nat):Int):Nat):Int)=s1 at s0 bs EZ E1 ⊢;have hW:f1≠0:=by omega
 have m5:s1≠0:=by omega
 have lf:=(bf.mono (n:=9000) (by decide)).log
 have ls:=(bs.mono (n:=9000) (by decide)).log
 refine ⟨_,rfl,p,_,_,_,rfl,rfl,hp,rfl,_,rfl,_,_,rfl,rfl,⟨hW,lf⟩,_,rfl,q,_,_,_,rfl,rfl,hq,rfl,_,rfl,_,_,rfl,rfl,⟨m5,ls⟩,_,_,rfl,rfl,(ZY ha EX hW).ok (ZY hc EZ m5) (by decide),_,rfl,p,_,_,_,rfl,rfl,hp,rfl,_,rfl,_,_,rfl,rfl,⟨m5,ls⟩,_,rfl,q,_,_,_,rfl,rfl,hq,rfl,_,rfl,_,_,rfl,rfl,⟨hW,lf⟩,_,_,rfl,rfl,(ZY hb E1 m5).ok (ZY hd EY hW) (by decide),by show 2<=sizeLine; decide,?_⟩
 refine JK λr H1 sm dO=>k r H1 sm ?_
 obtain ⟨e1,e2⟩:=q_times x y f1 s1 hf.symm hs.symm;have z:=SqT.of (K:=K) dO;dsimp only at z;rw [e1,e2] at z;exact z
noncomputable def sp_over (K:Frag):Sp:=λvs H Q _=>∃ (p_x:Addr) (x:Rat) (p_y:Addr) (y:Rat),vs=[.ref p_x,.ref p_y]/\FQ K H p_x x/\FB 4000 x/\FQ K H p_y y/\FB 4000 y/\y≠0/\(∀ (p_r:Addr) (H1:Hp),Same H H1->FQ K H1 p_r (x / y)->Q (.ref p_r) H1)
theorem sc_over:FnScope ["one","other","flipped"] ["one","other"] (zD (top 17)):={}
theorem ok_over (D:Df K mg "over" (top 17) ["one","other"]) (T:Tx K mg C) (aW:Fn P w K mg base 2 "times" ["one","other"] (JA K)):Fn P w K mg base 3 "over" ["one","other"] (sp_over K):=by
 refine D.ok0 sc_over (λvs H Q E h=>?_) (λf cdv A outer s H vs Q E hr h=>?_)
 ·obtain ⟨p,x,q,y,rfl,_⟩:=h;rfl
 obtain ⟨p,x,q,y,rfl,hp,dx,hq,dy,y0,k⟩:=h
 refine ⟨_,(zE (zf (zR jh (zH ix_tup (pv 1) zC (λ_ _=>rfl)) zC (zS _)) (zF jO) zX)
   (zE (zM (i:=2) sc_over.nd rfl (Or.inl rfl) (pe_ifExp (zR op_gt (zH ix_tup (pv 1) zC (λ_ _=>rfl)) zC (zS _)) (zQ (zA (zH ix_tup (pv 1) zC (λ_ _=>rfl)) (zA (zH ix_tup (pv 1) zC (λ_ _=>rfl)) zB))) (zQ (zA (YR ZE (zH ix_tup (pv 1) zC (λ_ _=>rfl))) (zA (YR ZE (zH ix_tup (pv 1) zC (λ_ _=>rfl))) zB)))))
   (zF (zL (zI aW (by decide) hr (by rfl) zG (zA (pv 0) (zA (pv 2) zB))))))),?_⟩
 try dsimp only [cxK,cxK0]
 have n0:=q_num_ne y0;refine ⟨_,rfl,q,_,_,_,rfl,rfl,hq,rfl,rfl,_,rfl,?_⟩;refine yr (λz=>absurd z n0) (λ_=>?_)
 refine ⟨_,rfl,q,_,_,_,rfl,rfl,hq,rfl,_,_,rfl,rfl,_,rfl,?_⟩;refine zd (λc=>?_) (λc=>?_)
 ·refine ⟨_,rfl,q,_,_,_,rfl,rfl,hq,rfl,_,rfl,q,_,_,_,rfl,rfl,hq,rfl,by show 2<=sizeLine; decide,?_⟩
  intro p1 n1;obtain ⟨H1,q1,s1,e1⟩:=newO n1 (.tup [.int ((y.den:Nat):Int),.int y.num]);rw [q1];clear q1;have g1:FQ K H1 p1 y⁻¹:=by
   have z:=SqT.of (K:=K) e1;rw [<- (q_invp c).1,<- (q_invp c).2] at z;exact z
  refine ⟨_,rfl,_,rfl,p,x,p1,y⁻¹,rfl,Kw.Same.tup s1 hp,dx,g1,FB.inv dy y0,λr H3 s3 g3=>?_⟩
  exact k r H3 (s1.trans s3) (g3.cast (Rat.div_def x y).symm)
 ·have c':y.num < 0:=by omega
  refine ⟨_,rfl,q,_,_,_,rfl,rfl,hq,rfl,_,rfl,_,rfl,q,_,_,_,rfl,rfl,hq,rfl,_,rfl,by show 2<=sizeLine; decide,?_⟩
  intro p2 n2;obtain ⟨H2,q2,s2,e2⟩:=newO n2 (.tup [.int (-((y.den:Nat):Int)),.int (-y.num)]);rw [q2];clear q2;have g1:FQ K H2 p2 y⁻¹:=by
   have z:=SqT.of (K:=K) e2;rw [<- (q_invn c').1,<- (q_invn c').2] at z;exact z
  refine ⟨_,rfl,_,rfl,p,x,p2,y⁻¹,rfl,Kw.Same.tup s2 hp,dx,g1,FB.inv dy y0,λr H3 s3 g3=>?_⟩
  exact k r H3 (s2.trans s3) (g3.cast (Rat.div_def x y).symm)
noncomputable def Zt (K:Frag):Sp:=λvs H Q _=>∃ (p_x:Addr) (x:Rat) (p_y:Addr) (y:Rat),vs=[.ref p_x,.ref p_y]/\FQ K H p_x x/\FB 8900 x/\FQ K H p_y y/\FB 8900 y/\(∀ (H1:Hp),Same H H1->Q (.bl (decide (x < y))) H1)
theorem sc_under:FnScope ["one","other"] ["one","other"] (zD (top 18)):={}
theorem ok_under (D:Df K mg "under" (top 18) ["one","other"]) (T:Tx K mg C):Fn P w K mg base 1 "under" ["one","other"] (Zt K):=by
 refine D.ok0 sc_under (λvs H Q E h=>?_) (λf cdv A outer s H vs Q E hr h=>?_)
 ·obtain ⟨p_x,x,p_y,y,rfl,_⟩:=h;rfl
 obtain ⟨p_x,x,p_y,y,rfl,g_x,d_x,g_y,d_y,k0⟩:=h;refine ⟨_,(zF (zL (ym Y6 (zP zc (zH ix_tup (pv 0) zC (λ_ _=>rfl)) (zH ix_tup (pv 1) zC (λ_ _=>rfl))) (zP zc (zH ix_tup (pv 1) zC (λ_ _=>rfl)) (zH ix_tup (pv 0) zC (λ_ _=>rfl))) (zS _)))),?_⟩
 try dsimp only [cxK,cxK0]
 refine ⟨_,rfl,p_x,_,_,_,rfl,rfl,g_x,rfl,_,rfl,p_y,_,_,_,rfl,rfl,g_y,rfl,_,_,rfl,rfl,(d_x.1.ok d_y.2 (by decide)),_,rfl,p_y,_,_,_,rfl,rfl,g_y,rfl,_,rfl,p_x,_,_,_,rfl,rfl,g_x,rfl,_,_,rfl,rfl,(d_y.1.ok d_x.2 (by decide)),_,_,rfl,rfl,?_⟩
 try dsimp only
 rw [show decide (((x).num * (((y).den:Nat):Int)) < ((y).num * (((x).den:Nat):Int)))=decide (x < y) from decide_eq_decide.mpr (by exact (q_lt x y).symm)]
 exact k0 _ (Same.refl _)
theorem jG {H H1:Hp} {a:Addr} (s:Same H H1) (n:H1 a=none):H a=none:=by
 cases e:H a with
 |none=>rfl
 |some o=>have:=s _ _ e; rw [n] at this; cases this
noncomputable def jK (K:Frag):Sp:=λvs H Q _=>∃ (z:V) (b:Bq) (d:Nat),vs=[z,.int (d:Int)]/\BqH K 5990 H z b/\d<=1/\∀ (r:Addr) (H1:Hp),Same H H1->FQ K H1 r (b.far d)->FB 7981 (b.far d)->Q (.ref r) H1
theorem sc_far_side:FnScope ["box","way"] ["box","way"] (zD (top 39)):={}
theorem ok_far_side (D:Df K mg "far_side" (top 39) ["box","way"]) (T:Tx K mg C) (aN:Fn P w K mg base 2 "plus" ["one","other"] (YJ K)):Fn P w K mg base 3 "far_side" ["box","way"] (jK K):=by
 refine D.ok0 sc_far_side (λvs H Q E h=>?_) (λf cdv A outer s H vs Q E hr h=>?_)
 ·obtain ⟨z,b,d,rfl,_⟩:=h;rfl
 obtain ⟨z,b,d,rfl,⟨p,a0,a1,a2,a3,a4,a5,rfl,hp,⟨g0,g1,g2,g3,g4,g5⟩,⟨d0,d1,d2,d3,d4,d5⟩,wt⟩,hd,q⟩:=h;refine ⟨_,(zF (zL (zI aN (by decide) hr (by rfl) zG (zA (zH ix_tup (pv 0) (pv 1) (λ_ _=>rfl)) (zA (zH ix_tup (pv 0) (zP zt (zZ (by rfl) T.k_SIZES) (pv 1)) (λ_ _=>rfl)) zB))))),?_⟩
 try dsimp only [cxK,cxK0]
 rcases d01 hd with rfl|rfl
 ·exact ⟨_,rfl,_,rfl,p,_,_,_,rfl,rfl,hp,rfl,_,rfl,_,rfl,_,_,rfl,rfl,p,_,_,_,rfl,rfl,hp,rfl,_,_,_,_,rfl,g0,d0.mono (by decide),g2,d2.mono (by decide),λr H1 s1 g=>q r H1 s1 g ((FB.add d0 d2).mono (by decide))⟩
 ·exact ⟨_,rfl,_,rfl,p,_,_,_,rfl,rfl,hp,rfl,_,rfl,_,rfl,_,_,rfl,rfl,p,_,_,_,rfl,rfl,hp,rfl,_,_,_,_,rfl,g1,d1.mono (by decide),g3,d3.mono (by decide),λr H1 s1 g=>q r H1 s1 g ((FB.add d1 d3).mono (by decide))⟩
noncomputable def yQ (K:Frag):Sp:=λvs H Q _=>∃ (z y:V) (a b:Bq) (d:Nat),vs=[z,y,.int (d:Int)]/\BqH K 5990 H z a/\BqH K 5990 H y b/\d<=1/\∀ (H1:Hp),Same H H1->Q (.bl (hicB a b d)) H1
theorem sc_have_in_common:FnScope ["one","other","way"] ["one","other","way"] (zD (top 41)):={}
theorem ok_have_in_common (D:Df K mg "have_in_common" (top 41) ["one","other","way"]) (T:Tx K mg C) (aD:Fn P w K mg base 1 "under" ["one","other"] (Zt K)) (am:Fn P w K mg base 3 "far_side" ["box","way"] (jK K)):Fn P w K mg base 4 "have_in_common" ["one","other","way"] (yQ K):=by
 refine D.ok0 sc_have_in_common (λvs H Q E h=>?_) (λf cdv A outer s H vs Q E hr h=>?_)
 ·obtain ⟨z,y,a,b,d,rfl,_⟩:=h;rfl
 obtain ⟨z,y,a,b,d,rfl,hz,hy,hd,q⟩:=h;refine ⟨_,(zF (zL (yg (zI aD (by decide) hr (by rfl) zG (zA (zH ix_tup (pv 0) (pv 2) (λ_ _=>rfl)) (zA (zI am (by decide) hr (by rfl) zG (zA (pv 1) (zA (pv 2) zB))) zB))) (yS (zI aD (by decide) hr (by rfl) zG (zA (zH ix_tup (pv 1) (pv 2) (λ_ _=>rfl)) (zA (zI am (by decide) hr (by rfl) zG (zA (pv 0) (zA (pv 2) zB))) zB))))))),?_⟩
 try dsimp only [cxK,cxK0]
 obtain ⟨px,a0x,a1x,a2x,a3x,a4x,a5x,rfl,hpx,⟨g0x,g1x,g2x,g3x,g4x,g5x⟩,⟨d0x,d1x,d2x,d3x,d4x,d5x⟩,wtx⟩:=id hz;obtain ⟨py,a0y,a1y,a2y,a3y,a4y,a5y,rfl,hpy,⟨g0y,g1y,g2y,g3y,g4y,g5y⟩,⟨d0y,d1y,d2y,d3y,d4y,d5y⟩,wty⟩:=id hy;obtain ⟨ax,bx,e1,k1,f1,e2,k2,f2⟩:∃ ax bx:Addr,atI [V.ref a0x,.ref a1x,.ref a2x,.ref a3x,.ref a4x,.ref a5x,wV a.m] (d:Int)=some (.ref ax)/\FQ K H ax (a.pl d)/\FB 5990 (a.pl d)/\atI [V.ref a0y,.ref a1y,.ref a2y,.ref a3y,.ref a4y,.ref a5y,wV b.m] (d:Int)=some (.ref bx)/\FQ K H bx (b.pl d)/\FB 5990 (b.pl d):=by
  rcases d01 hd with rfl|rfl
  ·exact ⟨a0x,a0y,rfl,g0x,d0x,rfl,g0y,d0y⟩
  ·exact ⟨a1x,a1y,rfl,g1x,d1x,rfl,g1y,d1y⟩
 refine ⟨_,rfl,_,rfl,px,_,_,_,rfl,rfl,hpx,e1,_,rfl,_,rfl,_,b,d,rfl,hy,hd,λr1 H1 s1 h1 hW=>?_⟩
 refine ⟨_,_,_,_,rfl,Kw.Same.tup s1 k1,f1.mono (by decide),h1,hW.mono (by decide),λH2 s2=>⟨_,rfl,?_⟩⟩
 have ao:=s1.trans s2;refine zd (λc=>?_) (λc=>?_)
 ·refine ⟨_,rfl,_,rfl,py,_,_,_,rfl,rfl,Kw.Same.tup ao hpy,e2,_,rfl,_,rfl,_,a,d,rfl,hz.same ao,hd,λr3 H3 s3 h3 f3=>?_⟩
  refine ⟨_,_,_,_,rfl,Kw.Same.tup (ao.trans s3) k2,f2.mono (by decide),h3,f3.mono (by decide),λH4 s4=>?_⟩
  have z:=q H4 (ao.trans (s3.trans s4));unfold hicB at z;rw [decide_eq_true c,Bool.true_and] at z;exact z
 ·have z:=q H2 ao;unfold hicB at z;rw [decide_eq_false c,Bool.false_and] at z;exact z
noncomputable def YV (K:Frag):Sp:=λvs H Q _=>∃ (z y:V) (a b:Bq) (d:Nat),vs=[z,y,.int (d:Int)]/\BqH K 5990 H z a/\BqH K 5990 H y b/\d<=1/\∀ (H1:Hp),Same H H1->Q (.bl (tchB a b d)) H1
theorem sc_touches:FnScope ["one","other","way"] ["one","other","way"] (zD (top 43)):={}
theorem ok_touches (D:Df K mg "touches" (top 43) ["one","other","way"]) (T:Tx K mg C) (am:Fn P w K mg base 3 "far_side" ["box","way"] (jK K)):Fn P w K mg base 4 "touches" ["one","other","way"] (YV K):=by
 refine D.ok0 sc_touches (λvs H Q E h=>?_) (λf cdv A outer s H vs Q E hr h=>?_)
 ·obtain ⟨z,y,a,b,d,rfl,_⟩:=h;rfl
 obtain ⟨z,y,a,b,d,rfl,hz,hy,hd,q⟩:=h;refine ⟨_,(zF (zL (ym (op_eqQ (K:=K) rfl (u100 hr)) (zI am (by decide) hr (by rfl) zG (zA (pv 0) (zA (pv 2) zB))) (zH ix_tup (pv 1) (pv 2) (λ_ _=>rfl)) (zS _)))),?_⟩
 try dsimp only [cxK,cxK0]
 obtain ⟨py,a0y,a1y,a2y,a3y,a4y,a5y,rfl,hpy,⟨g0y,g1y,g2y,g3y,g4y,g5y⟩,⟨d0y,d1y,d2y,d3y,d4y,d5y⟩,wty⟩:=id hy;refine ⟨_,rfl,_,rfl,_,a,d,rfl,hz,hd,λr1 H1 s1 h1 f1=>?_⟩
 have z:=q H1 s1;rcases d01 hd with rfl|rfl
 ·exact ⟨_,rfl,_,rfl,py,_,_,_,rfl,rfl,Kw.Same.tup s1 hpy,rfl,r1,a0y,_,_,rfl,rfl,h1,Kw.Same.tup s1 g0y,z⟩
 ·exact ⟨_,rfl,_,rfl,py,_,_,_,rfl,rfl,Kw.Same.tup s1 hpy,rfl,r1,a1y,_,_,rfl,rfl,h1,Kw.Same.tup s1 g1y,z⟩
noncomputable def YS (K:Frag):Sp:=λvs H Q _=>∃ (z y:V) (a b:Bq) (d:Nat),vs=[z,y,.int (d:Int)]/\BqH K 5990 H z a/\BqH K 5990 H y b/\d<=1/\∀ (H1:Hp),Same H H1->Q (.bl (besB a b d)) H1
theorem sc_are_beside:FnScope ["one","other","way"] ["one","other","way"] (zD (top 44)):={}
theorem ok_are_beside (D:Df K mg "are_beside" (top 44) ["one","other","way"]) (T:Tx K mg C) (aE:Fn P w K mg base 4 "touches" ["one","other","way"] (YV K)) (ag:Fn P w K mg base 4 "have_in_common" ["one","other","way"] (yQ K)):Fn P w K mg base 5 "are_beside" ["one","other","way"] (YS K):=by
 refine D.ok0 sc_are_beside (λvs H Q E h=>?_) (λf cdv A outer s H vs Q E hr h=>?_)
 ·obtain ⟨z,y,a,b,d,rfl,_⟩:=h;rfl
 obtain ⟨z,y,a,b,d,rfl,hz,hy,hd,q⟩:=h;refine ⟨_,(zF (zL (yg (zI aE (by decide) hr (by rfl) zG (zA (pv 0) (zA (pv 1) (zA (pv 2) zB)))) (yS (zI ag (by decide) hr (by rfl) zG (zA (pv 0) (zA (pv 1) (zA (zP ZW zC (pv 2)) zB)))))))),?_⟩
 try dsimp only [cxK,cxK0]
 refine ⟨_,rfl,_,rfl,_,rfl,z,y,a,b,d,rfl,hz,hy,hd,λH1 s1=>⟨_,rfl,?_⟩⟩
 unfold besB at q;cases c:tchB a b d with
 |false=>
  have z:=q H1 s1;rw [c,Bool.false_and] at z;exact iteF z
 |true=>
  refine iteT ⟨_,rfl,_,rfl,_,rfl,_,_,rfl,rfl,z,y,a,b,1 - d,?_,hz.same s1,hy.same s1,by omega,λH2 s2=>?_⟩
  ·rcases d01 hd with rfl|rfl<;>rfl
  have z:=q H2 (s1.trans s2);rw [c,Bool.true_and] at z;exact z
noncomputable def jj (K:Frag):Sp:=λvs H Q _=>∃ (z y:V) (a b:Bq),vs=[z,y]/\BqH K 5990 H z a/\BqH K 5990 H y b/\∀ (H1:Hp),Same H H1->Q (.bl (crnB a b)) H1
theorem ju:FnScope ["one","other","across"] ["one","other"] (zD (top 45)):={}
theorem ok_are_at_a_corner (D:Df K mg "are_at_a_corner" (top 45) ["one","other"]) (T:Tx K mg C) (aE:Fn P w K mg base 4 "touches" ["one","other","way"] (YV K)):Fn P w K mg base 5 "are_at_a_corner" ["one","other"] (jj K):=by
 refine D.ok0 ju (λvs H Q E h=>?_) (λf cdv A outer s H vs Q E hr h=>?_)
 ·obtain ⟨z,y,a,b,rfl,_⟩:=h;rfl
 obtain ⟨z,y,a,b,rfl,hz,hy,q⟩:=h
 refine ⟨_,(zE (zM (i:=2) ju.nd rfl (Or.inl rfl) (pe_or (zI aE (by decide) hr (by rfl) zG (zA (pv 0) (zA (pv 1) (zA (zZ (by rfl) T.k_ACROSS) zB)))) (yS (zI aE (by decide) hr (by rfl) zG (zA (pv 1) (zA (pv 0) (zA (zZ (by rfl) T.k_ACROSS) zB)))))))
   (zF (zL (yg (pv 2) (yS (pe_or (zI aE (by decide) hr (by rfl) zG (zA (pv 0) (zA (pv 1) (zA (zZ (by rfl) T.k_ALONG) zB)))) (yS (zI aE (by decide) hr (by rfl) zG (zA (pv 1) (zA (pv 0) (zA (zZ (by rfl) T.k_ALONG) zB))))))))))),?_⟩
 try dsimp only [cxK,cxK0]
 unfold crnB at q;refine cut1 (λσ' H'=>∃ c:Bool,σ'=[some z,some y,some (.bl c)]/\Same H H'/\c=(tchB a b 0 || tchB b a 0)) (λN hN=>?_) ?_
 ·refine ⟨_,rfl,_,rfl,z,y,a,b,0,rfl,hz,hy,by decide,λH1 s1=>⟨_,rfl,?_⟩⟩
  cases c:tchB a b 0 with
  |true=>exact iteT (hN _ _ ⟨_,rfl,s1,by rw [c]; rfl⟩)
  |false=>
   refine iteF ⟨_,rfl,_,rfl,y,z,b,a,0,rfl,hy.same s1,hz.same s1,by decide,λH2 s2=>?_⟩
   exact hN _ _ ⟨_,rfl,s1.trans s2,by rw [c]; rfl⟩
 rintro σ' H2 ⟨c,rfl,s2,ec⟩;refine ⟨_,rfl,_,rfl,?_⟩;rw [<- ec] at q;cases c with
 |false=>
  exact iteF (q H2 s2)
 |true=>
  refine iteT ⟨_,rfl,_,rfl,z,y,a,b,1,rfl,hz.same s2,hy.same s2,by decide,λH3 s3=>⟨_,rfl,?_⟩⟩
  cases c:tchB a b 1 with
  |true=>
   have z:=q H3 (s2.trans s3);rw [c] at z;exact iteT z
  |false=>
   refine iteF ⟨_,rfl,_,rfl,y,z,b,a,1,rfl,hy.same (s2.trans s3),hz.same (s2.trans s3),by decide,λH4 s4=>?_⟩
   have z:=q H4 (s2.trans (s3.trans s4));rw [c] at z;exact z
noncomputable def JT (K:Frag):Sp:=λvs H Q _=>∃ (p a c:Addr) (x v:Rat) (ys:List V) (u:Addr) (t:Rat),vs=[.ref p,.ref u]/\SqT K H p (.ref a::.ref c::ys)/\FQ K H a x/\FQ K H c v/\FB 1990 x/\FB 1990 v/\FQ K H u t/\FB 2000 t/\∀ (r:Addr) (H1:Hp),Same H H1->FQ K H1 r (x+v * t)->FB 5990 (x+v * t)->Q (.ref r) H1
theorem sc_place_at:FnScope ["body","moment"] ["body","moment"] (zD (top 24)):={}
theorem ok_place_at (D:Df K mg "place_at" (top 24) ["body","moment"]) (T:Tx K mg C) (aN:Fn P w K mg base 2 "plus" ["one","other"] (YJ K)) (aW:Fn P w K mg base 2 "times" ["one","other"] (JA K)):Fn P w K mg base 3 "place_at" ["body","moment"] (JT K):=by
 refine D.ok0 sc_place_at (λvs H Q E h=>?_) (λf cdv A outer s H vs Q E hr h=>?_)
 ·obtain ⟨p,a,c,x,v,ys,u,t,rfl,_⟩:=h;rfl
 obtain ⟨p,a,c,x,v,ys,u,t,rfl,hp,ga,gc,da,dc,gt,dt,k⟩:=h;refine ⟨_,(zF (zL (zI aN (by decide) hr (by rfl) zG (zA (zH ix_tup (pv 0) zC (λ_ _=>rfl)) (zA (zI aW (by decide) hr (by rfl) zG (zA (zH ix_tup (pv 0) zC (λ_ _=>rfl)) (zA (pv 1) zB))) zB))))),?_⟩
 try dsimp only [cxK,cxK0]
 refine ⟨_,rfl,p,_,_,_,rfl,rfl,hp,yA (j:=0) rfl,_,rfl,p,_,_,_,rfl,rfl,hp,yA (j:=1) rfl,_,rfl,c,v,u,t,rfl,gc,dc.mono (by decide),gt,dt.mono (by decide),λr1 H1 s1 g1=>?_⟩
 refine ⟨a,x,r1,_,rfl,Kw.Same.tup s1 ga,da.mono (by decide),g1,(FB.mul dc dt).mono (by decide),λr2 H2 s2 g2=>?_⟩
 exact k r2 H2 (s1.trans s2) g2 ((FB.add da (FB.mul dc dt)).mono (by decide))
noncomputable def JH (K:Frag):Sp:=λvs H Q _=>∃ (z:V) (b:Bq) (u:Addr) (t:Rat),vs=[z,.ref u]/\BqH K 1990 H z b/\FQ K H u t/\FB 2000 t/\∀ (r:Addr) (H1:Hp),Same H H1->BqH K 5990 H1 (.ref r) (atB t b)->Q (.ref r) H1
theorem JO:FnScope ["box","moment","left","low"] ["box","moment"] (zD (top 46)):={}
theorem ok_box_at (D:Df K mg "box_at" (top 46) ["box","moment"]) (T:Tx K mg C) (bL:Fn P w K mg base 3 "place_at" ["body","moment"] (JT K)):Fn P w K mg base 4 "box_at" ["box","moment"] (JH K):=by
 refine D.ok0 JO (λvs H Q E h=>?_) (λf cdv A outer s H vs Q E hr h=>?_)
 ·obtain ⟨z,b,u,t,rfl,_⟩:=h;rfl
 obtain ⟨z,b,u,t,rfl,⟨p,a0,a1,a2,a3,a4,a5,rfl,hp,⟨g0,g1,g2,g3,g4,g5⟩,⟨d0,d1,d2,d3,d4,d5⟩,wt⟩,gt,dt,k⟩:=h
 refine ⟨_,(zE (zM (i:=2) JO.nd rfl (Or.inl rfl) (zI bL (by decide) hr (by rfl) zG (zA (zQ (zA (zH ix_tup (pv 0) zC (λ_ _=>rfl)) (zA (zH ix_tup (pv 0) zC (λ_ _=>rfl)) zB))) (zA (pv 1) zB))))
   (zE (zM (i:=3) JO.nd rfl (Or.inl rfl) (zI bL (by decide) hr (by rfl) zG (zA (zQ (zA (zH ix_tup (pv 0) zC (λ_ _=>rfl)) (zA (zH ix_tup (pv 0) zC (λ_ _=>rfl)) zB))) (zA (pv 1) zB))))
   (zF (zL (zP (Y3 (K:=K) rfl) (zQ (zA (pv 2) (zA (pv 3) zB))) (Y9 (Jq (K:=K) rfl) (pv 0) (Yw zC) po_none)))))),?_⟩
 try dsimp only [cxK,cxK0]
 refine ⟨_,rfl,p,_,_,_,rfl,rfl,hp,rfl,_,rfl,p,_,_,_,rfl,rfl,hp,rfl,by show 2<=sizeLine; decide,?_⟩
 intro p1 n1;obtain ⟨H1,q1,s1,e1⟩:=newO n1 (.tup [.ref a0,.ref a4]);rw [q1];clear q1;refine ⟨_,rfl,p1,a0,a4,b.x,b.u,[],u,t,rfl,SqT.of e1,Kw.Same.tup s1 g0,Kw.Same.tup s1 g4,d0,d4,Kw.Same.tup s1 gt,dt,λr2 H2 s2 k2 f2=>?_⟩
 have ao:=s1.trans s2;have cG:=Kw.Same.tup ao hp;refine ⟨_,rfl,p,_,_,_,rfl,rfl,cG,rfl,_,rfl,p,_,_,_,rfl,rfl,cG,rfl,by show 2<=sizeLine; decide,?_⟩
 intro p3 n3;obtain ⟨H3,q3,s3,e3⟩:=newO n3 (.tup [.ref a1,.ref a5]);rw [q3];clear q3;have aJ:=ao.trans s3;refine ⟨_,rfl,p3,a1,a5,b.y,b.v,[],u,t,rfl,SqT.of e3,Kw.Same.tup aJ g1,Kw.Same.tup aJ g5,d1,d5,Kw.Same.tup aJ gt,dt,λr4 H4 s4 k4 f4=>?_⟩
 have bB:=aJ.trans s4;refine ⟨_,rfl,_,rfl,by show 2<=sizeLine; decide,?_⟩
 intro p5 n5;obtain ⟨H5,q5,s5,e5⟩:=newO n5 (.tup [.ref r2,.ref r4]);rw [q5];clear q5;have ej:=bB.trans s5;have iD:=Kw.Same.tup ej hp;refine ⟨_,rfl,_,rfl,p,_,rfl,iD,cut_gt (n:=7) (by decide) (by decide),?_⟩
 intro p6 n6;obtain ⟨H6,q6,s6,e6⟩:=newO n6 (.tup (cutV [.ref a0,.ref a1,.ref a2,.ref a3,.ref a4,.ref a5,wV b.m] (some 2) none));rw [q6];clear q6;have Ho:H6 p6=some (.tup [.ref a2,.ref a3,.ref a4,.ref a5,wV b.m]):=e6;refine ⟨p5,p6,_,_,rfl,rfl,SqT.of (s6 _ _ e5),SqT.of Ho,by show 7<=sizeLine; decide,λz=>(nomatch z),λ_ z=>(nomatch z),λ_ _=>?_⟩
 intro p7 n7;obtain ⟨H7,q7,s7,e7⟩:=newO n7 (.tup ([.ref r2,.ref r4]++[.ref a2,.ref a3,.ref a4,.ref a5,wV b.m]));rw [q7];clear q7;have dg:=ej.trans (s6.trans s7);have E2:=s5.trans (s6.trans s7);exact k p7 H7 dg ⟨p7,r2,r4,a2,a3,a4,a5,rfl,SqT.of e7,⟨Kw.Same.tup (s3.trans (s4.trans E2)) k2,Kw.Same.tup E2 k4,Kw.Same.tup dg g2,Kw.Same.tup dg g3,Kw.Same.tup dg g4,Kw.Same.tup dg g5⟩,⟨f2,f4,d2,d3,d4,d5⟩,wt⟩
noncomputable def ZH (K:Frag):Sp:=λvs H Q _=>∃ (z:V) (b:Bq) (d:Nat),vs=[z,.int (d:Int)]/\BqH K 1990 H z b/\d<=1/\∀ (r:Addr) (H1:Hp),Same H H1->GoQ K 1990 H1 (.ref r) (zm b d)->Q (.ref r) H1
theorem sc_near_going:FnScope ["box","way"] ["box","way"] (zD (top 47)):={}
theorem ok_near_going (D:Df K mg "near_going" (top 47) ["box","way"]) (T:Tx K mg C):Fn P w K mg base 1 "near_going" ["box","way"] (ZH K):=by
 refine D.ok0 sc_near_going (λvs H Q E h=>?_) (λf cdv A outer s H vs Q E hr h=>?_)
 ·obtain ⟨z,b,d,rfl,_⟩:=h;rfl
 obtain ⟨z,b,d,rfl,⟨p,a0,a1,a2,a3,a4,a5,rfl,hp,⟨g0,g1,g2,g3,g4,g5⟩,⟨d0,d1,d2,d3,d4,d5⟩,wt⟩,hd,q⟩:=h;refine ⟨_,(zF (zL (zQ (zA (zH ix_tup (pv 0) (pv 1) (λ_ _=>rfl)) (zA (zH ix_tup (pv 0) (zP zt (zZ (by rfl) T.k_SPEEDS) (pv 1)) (λ_ _=>rfl)) (zA (zH ix_tup (pv 0) zC (λ_ _=>rfl)) zB)))))),?_⟩
 try dsimp only [cxK,cxK0]
 rcases d01 hd with rfl|rfl
 ·refine ⟨_,rfl,_,rfl,p,_,_,_,rfl,rfl,hp,rfl,_,rfl,_,rfl,_,_,rfl,rfl,p,_,_,_,rfl,rfl,hp,rfl,_,rfl,p,_,_,_,rfl,rfl,hp,rfl,by show 3<=sizeLine; decide,?_⟩
  intro p1 n1;obtain ⟨H1,q1,s1,e1⟩:=newO n1 (.tup [.ref a0,.ref a4,wV b.m]);rw [q1];clear q1;exact q p1 H1 s1 ⟨p1,a0,a4,rfl,SqT.of e1,Kw.Same.tup s1 g0,Kw.Same.tup s1 g4,d0,d4,wt⟩
 ·refine ⟨_,rfl,_,rfl,p,_,_,_,rfl,rfl,hp,rfl,_,rfl,_,rfl,_,_,rfl,rfl,p,_,_,_,rfl,rfl,hp,rfl,_,rfl,p,_,_,_,rfl,rfl,hp,rfl,by show 3<=sizeLine; decide,?_⟩
  intro p1 n1;obtain ⟨H1,q1,s1,e1⟩:=newO n1 (.tup [.ref a1,.ref a5,wV b.m]);rw [q1];clear q1;exact q p1 H1 s1 ⟨p1,a1,a5,rfl,SqT.of e1,Kw.Same.tup s1 g1,Kw.Same.tup s1 g5,d1,d5,wt⟩
noncomputable def Za (K:Frag):Sp:=λvs H Q _=>∃ (z:V) (b:Bq) (d:Nat),vs=[z,.int (d:Int)]/\BqH K 1990 H z b/\d<=1/\FB 1990 (b.far d)/\∀ (r:Addr) (H1:Hp),Same H H1->GoQ K 1990 H1 (.ref r) (farG b d)->Q (.ref r) H1
theorem sc_far_going:FnScope ["box","way"] ["box","way"] (zD (top 48)):={}
theorem ok_far_going (D:Df K mg "far_going" (top 48) ["box","way"]) (T:Tx K mg C) (am:Fn P w K mg base 3 "far_side" ["box","way"] (jK K)):Fn P w K mg base 4 "far_going" ["box","way"] (Za K):=by
 refine D.ok0 sc_far_going (λvs H Q E h=>?_) (λf cdv A outer s H vs Q E hr h=>?_)
 ·obtain ⟨z,b,d,rfl,_⟩:=h;rfl
 obtain ⟨z,b,d,rfl,hz,hd,fb,q⟩:=h;refine ⟨_,(zF (zL (zQ (zA (zI am (by decide) hr (by rfl) zG (zA (pv 0) (zA (pv 1) zB))) (zA (zH ix_tup (pv 0) (zP zt (zZ (by rfl) T.k_SPEEDS) (pv 1)) (λ_ _=>rfl)) (zA (zH ix_tup (pv 0) zC (λ_ _=>rfl)) zB)))))),?_⟩
 try dsimp only [cxK,cxK0]
 refine ⟨_,rfl,_,rfl,z,b,d,rfl,hz.mono (by decide),hd,λr1 H1 s1 k1 _=>?_⟩
 obtain ⟨p,a0,a1,a2,a3,a4,a5,rfl,hp,⟨g0,g1,g2,g3,g4,g5⟩,⟨d0,d1,d2,d3,d4,d5⟩,wt⟩:=hz.same s1;rcases d01 hd with rfl|rfl
 ·refine ⟨_,rfl,_,rfl,_,_,rfl,rfl,p,_,_,_,rfl,rfl,hp,rfl,_,rfl,p,_,_,_,rfl,rfl,hp,rfl,by show 3<=sizeLine; decide,?_⟩
  intro p2 n2;obtain ⟨H2,q2,s2,e2⟩:=newO n2 (.tup [.ref r1,.ref a4,wV b.m]);rw [q2];clear q2;exact q p2 H2 (s1.trans s2) ⟨p2,r1,a4,rfl,SqT.of e2,Kw.Same.tup s2 k1,Kw.Same.tup s2 g4,fb,d4,wt⟩
 ·refine ⟨_,rfl,_,rfl,_,_,rfl,rfl,p,_,_,_,rfl,rfl,hp,rfl,_,rfl,p,_,_,_,rfl,rfl,hp,rfl,by show 3<=sizeLine; decide,?_⟩
  intro p2 n2;obtain ⟨H2,q2,s2,e2⟩:=newO n2 (.tup [.ref r1,.ref a5,wV b.m]);rw [q2];clear q2;exact q p2 H2 (s1.trans s2) ⟨p2,r1,a5,rfl,SqT.of e2,Kw.Same.tup s2 k1,Kw.Same.tup s2 g5,fb,d5,wt⟩
noncomputable def yn (K:Frag):Sp:=λvs H Q _=>∃ (z:V) (b:Bq) (d:Nat) (pg a c:Addr) (x v:Rat) (ys:List V),vs=[z,.int (d:Int),.ref pg]/\BqH K 1990 H z b/\d<=1/\SqT K H pg (.ref a::.ref c::ys)/\FQ K H a x/\FQ K H c v/\FB 1990 x/\FB 1990 v/\∀ (r:Addr) (H1:Hp),Same H H1->BqH K 1990 H1 (.ref r) (b.with d x v)->Q (.ref r) H1
theorem jg:FnScope ["box","way","going","parts"] ["box","way","going"] (zD (top 49)):={}
theorem ok_with_near_going (D:Df K mg "with_near_going" (top 49) ["box","way","going"]) (T:Tx K mg C):Fn P w K mg base 1 "with_near_going" ["box","way","going"] (yn K):=by
 refine D.ok0 jg (λvs H Q E h=>?_) (λf cdv A outer s H vs Q E hr h=>?_)
 ·obtain ⟨z,b,d,pg,a,c,x,v,ys,rfl,_⟩:=h;rfl
 obtain ⟨z,b,d,pg,a,c,x,v,ys,rfl,⟨p,a0,a1,a2,a3,a4,a5,rfl,hp,⟨g0,g1,g2,g3,g4,g5⟩,⟨d0,d1,d2,d3,d4,d5⟩,wt⟩,hd,hg,ga,gc,da,dc,q⟩:=h
 refine ⟨_,(zE (zM (i:=3) jg.nd rfl (Or.inl rfl) (jZ Yv (by rfl) T.b_list PyProof.Rows.Boot.«list» (zA (pv 0) zB)))
   (zE (YX (zH ix_tup (pv 2) zC (λ_ _=>rfl)) (J7 (pv 3) (pv 1) YA))
   (zE (YX (zH ix_tup (pv 2) zC (λ_ _=>rfl)) (J7 (pv 3) (zP zt (zZ (by rfl) T.k_SPEEDS) (pv 1)) YA))
   (zF (zL (jZ call_tuple_of (by rfl) T.b_tuple PyProof.Rows.Boot.«tuple» (zA (pv 3) zB))))))),?_⟩
 try dsimp only [cxK,cxK0]
 refine ⟨_,rfl,p,_,rfl,.inr hp,?_⟩;intro p1 n1;obtain ⟨H1,q1,s1,e1⟩:=newO n1 (.lst [.ref a0,.ref a1,.ref a2,.ref a3,.ref a4,.ref a5,wV b.m]);rw [q1];clear q1;have tk:∀ {H2:Hp} {r:Addr} {xs:List V},But p1 H1 H2->SqT K H r xs->SqT K H2 r xs:=λs h=>s.tup e1 (Kw.Same.tup s1 h)
 have hX:=Kw.Same.tup s1 hg;rcases d01 hd with rfl|rfl
 ·refine ⟨_,rfl,pg,_,_,_,rfl,rfl,hX,yA (j:=0) rfl,_,rfl,_,rfl,p1,_,_,0,rfl,rfl,e1,rfl,?_⟩;obtain ⟨H2,q2,s2,e2⟩:=newB (H:=H1) (p:=p1) (.lst [.ref a,.ref a1,.ref a2,.ref a3,.ref a4,.ref a5,wV b.m]);dsimp only;rw [show (List.set [V.ref a0,.ref a1,.ref a2,.ref a3,.ref a4,.ref a5,wV b.m] 0 (V.ref a))=[.ref a,.ref a1,.ref a2,.ref a3,.ref a4,.ref a5,wV b.m] from rfl,q2];clear q2;have oS:=s2.tup e1 hX;refine ⟨_,rfl,pg,_,_,_,rfl,rfl,oS,yA (j:=1) rfl,_,rfl,_,rfl,_,_,rfl,rfl,p1,_,_,4,rfl,rfl,e2,rfl,?_⟩;obtain ⟨H3,q3,s3,e3⟩:=newB (H:=H2) (p:=p1) (.lst [.ref a,.ref a1,.ref a2,.ref a3,.ref c,.ref a5,wV b.m]);dsimp only;rw [show (List.set [V.ref a,.ref a1,.ref a2,.ref a3,.ref a4,.ref a5,wV b.m] 4 (V.ref c))=[.ref a,.ref a1,.ref a2,.ref a3,.ref c,.ref a5,wV b.m] from rfl,q3];clear q3;refine ⟨_,rfl,p1,_,rfl,.inl ⟨SqL.of e3,?_⟩⟩;intro p4 n4;obtain ⟨H4,q4,s4,e4⟩:=newO n4 (.tup [.ref a,.ref a1,.ref a2,.ref a3,.ref c,.ref a5,wV b.m]);rw [q4];clear q4;have B3:But p1 H1 H3:=s2.trans s3;have dP:∀ {r:Addr} {xs:List V},SqT K H r xs->SqT K H4 r xs:=λh=>Kw.Same.tup s4 (tk B3 h)
  refine q p4 H4 (λz o hz=>s4 _ _ (B3 z o (zN hz n1) (s1 _ _ hz))) ⟨p4,a,a1,a2,a3,c,a5,rfl,SqT.of e4,⟨dP ga,dP g1,dP g2,dP g3,dP gc,dP g5⟩,⟨da,d1,d2,d3,dc,d5⟩,wt⟩
 ·refine ⟨_,rfl,pg,_,_,_,rfl,rfl,hX,yA (j:=0) rfl,_,rfl,_,rfl,p1,_,_,1,rfl,rfl,e1,rfl,?_⟩;obtain ⟨H2,q2,s2,e2⟩:=newB (H:=H1) (p:=p1) (.lst [.ref a0,.ref a,.ref a2,.ref a3,.ref a4,.ref a5,wV b.m]);dsimp only;rw [show (List.set [V.ref a0,.ref a1,.ref a2,.ref a3,.ref a4,.ref a5,wV b.m] 1 (V.ref a))=[.ref a0,.ref a,.ref a2,.ref a3,.ref a4,.ref a5,wV b.m] from rfl,q2];clear q2;have oS:=s2.tup e1 hX;refine ⟨_,rfl,pg,_,_,_,rfl,rfl,oS,yA (j:=1) rfl,_,rfl,_,rfl,_,_,rfl,rfl,p1,_,_,5,rfl,rfl,e2,rfl,?_⟩;obtain ⟨H3,q3,s3,e3⟩:=newB (H:=H2) (p:=p1) (.lst [.ref a0,.ref a,.ref a2,.ref a3,.ref a4,.ref c,wV b.m]);dsimp only;rw [show (List.set [V.ref a0,.ref a,.ref a2,.ref a3,.ref a4,.ref a5,wV b.m] 5 (V.ref c))=[.ref a0,.ref a,.ref a2,.ref a3,.ref a4,.ref c,wV b.m] from rfl,q3];clear q3;refine ⟨_,rfl,p1,_,rfl,.inl ⟨SqL.of e3,?_⟩⟩;intro p4 n4;obtain ⟨H4,q4,s4,e4⟩:=newO n4 (.tup [.ref a0,.ref a,.ref a2,.ref a3,.ref a4,.ref c,wV b.m]);rw [q4];clear q4;have B3:But p1 H1 H3:=s2.trans s3;have dP:∀ {r:Addr} {xs:List V},SqT K H r xs->SqT K H4 r xs:=λh=>Kw.Same.tup s4 (tk B3 h)
  refine q p4 H4 (λz o hz=>s4 _ _ (B3 z o (zN hz n1) (s1 _ _ hz))) ⟨p4,a0,a,a2,a3,a4,c,rfl,SqT.of e4,⟨dP g0,dP ga,dP g2,dP g3,dP g4,dP gc⟩,⟨d0,da,d2,d3,d4,dc⟩,wt⟩
noncomputable def jy (K:Frag):Sp:=λvs H Q _=>∃ (z:V) (b:Bq) (d:Nat) (pg a c:Addr) (x v:Rat) (ys:List V),vs=[z,.int (d:Int),.ref pg]/\BqH K 1990 H z b/\d<=1/\SqT K H pg (.ref a::.ref c::ys)/\FQ K H a x/\FQ K H c v/\FB 1990 x/\FB 1990 v/\FB 1990 (x - b.sz d)/\∀ (r:Addr) (H1:Hp),Same H H1->BqH K 1990 H1 (.ref r) (b.with d (x - b.sz d) v)->Q (.ref r) H1
theorem sc_with_far_going:FnScope ["box","way","going"] ["box","way","going"] (zD (top 50)):={}
theorem ok_with_far_going (D:Df K mg "with_far_going" (top 50) ["box","way","going"]) (T:Tx K mg C) (aI:Fn P w K mg base 3 "minus" ["one","other"] (YC K)) (au:Fn P w K mg base 1 "with_near_going" ["box","way","going"] (yn K)):Fn P w K mg base 4 "with_far_going" ["box","way","going"] (jy K):=by
 refine D.ok0 sc_with_far_going (λvs H Q E h=>?_) (λf cdv A outer s H vs Q E hr h=>?_)
 ·obtain ⟨z,b,d,pg,a,c,x,v,ys,rfl,_⟩:=h;rfl
 obtain ⟨z,b,d,pg,a,c,x,v,ys,rfl,hz,hd,hg,ga,gc,da,dc,df,q⟩:=h;refine ⟨_,(zF (zL (zI au (by decide) hr (by rfl) zG (zA (pv 0) (zA (pv 1) (zA (zQ (zA (zI aI (by decide) hr (by rfl) zG (zA (zH ix_tup (pv 2) zC (λ_ _=>rfl)) (zA (zH ix_tup (pv 0) (zP zt (zZ (by rfl) T.k_SIZES) (pv 1)) (λ_ _=>rfl)) zB))) (zA (zH ix_tup (pv 2) zC (λ_ _=>rfl)) zB))) zB)))))),?_⟩
 try dsimp only [cxK,cxK0]
 obtain ⟨p,a0,a1,a2,a3,a4,a5,rfl,hp,⟨g0,g1,g2,g3,g4,g5⟩,⟨d0,d1,d2,d3,d4,d5⟩,wt⟩:=id hz;obtain ⟨as,es,gs,ds⟩:∃ as:Addr,atI [V.ref a0,.ref a1,.ref a2,.ref a3,.ref a4,.ref a5,wV b.m] (2+(d:Int))=some (.ref as)/\FQ K H as (b.sz d)/\FB 1990 (b.sz d):=by
  rcases d01 hd with rfl|rfl
  ·exact ⟨a2,rfl,g2,d2⟩
  ·exact ⟨a3,rfl,g3,d3⟩
 refine ⟨_,rfl,_,rfl,_,rfl,pg,_,_,_,rfl,rfl,hg,yA (j:=0) rfl,_,rfl,_,rfl,_,_,rfl,rfl,p,_,_,_,rfl,rfl,hp,es,_,_,_,_,rfl,ga,da.mono (by decide),gs,ds.mono (by decide),λr1 H1 s1 k1=>?_⟩
 have hX:=Kw.Same.tup s1 hg;refine ⟨_,rfl,pg,_,_,_,rfl,rfl,hX,yA (j:=1) rfl,by show 2<=sizeLine; decide,?_⟩
 intro p2 n2;obtain ⟨H2,q2,s2,e2⟩:=newO n2 (.tup [.ref r1,.ref c]);rw [q2];clear q2;have ao:=s1.trans s2;exact ⟨_,b,d,p2,r1,c,_,v,[],rfl,hz.same ao,hd,SqT.of e2,Kw.Same.tup s2 k1,Kw.Same.tup ao gc,df,dc,λr H3 s3 h3=>q r H3 (ao.trans s3) h3⟩
noncomputable def sp_mixed (K:Frag):Sp:=λvs H Q _=>∃ (p_x:Addr) (x:Rat) (p_y:Addr) (y:Rat) (m:Int) (u:Int) (p_s:Addr) (s:Rat),vs=[.ref p_x,.ref p_y,.int m,.int u,.ref p_s]/\FQ K H p_x x/\FB 1990 x/\FQ K H p_y y/\FB 1990 y/\1<=m/\m<=10000/\1<=u/\u<=10000/\FQ K H p_s s/\FB 64 s/\(∀ (p_r:Addr) (H1:Hp),Same H H1->FQ K H1 p_r (mixS x y m u s)->Q (.ref p_r) H1)
theorem Y2:FnScope ["own","far","weight","mass","share","both","kept","taken"] ["own","far","weight","mass","share"] (zD (top 26)):={}
theorem ok_mixed (D:Df K mg "mixed" (top 26) ["own","far","weight","mass","share"]) (T:Tx K mg C) (bM:Fn P w K mg base 2 "fraction" ["top","bottom"] (Je K)) (aW:Fn P w K mg base 2 "times" ["one","other"] (JA K)) (aN:Fn P w K mg base 2 "plus" ["one","other"] (YJ K)):Fn P w K mg base 3 "mixed" ["own","far","weight","mass","share"] (sp_mixed K):=by
 refine D.ok0 Y2 (λvs H Q E h=>?_) (λf cdv A outer s H vs Q E hr h=>?_)
 ·obtain ⟨p_x,x,p_y,y,m,u,p_s,s,rfl,_⟩:=h;rfl
 obtain ⟨p_x,x,p_y,y,m,u,p_s,s,rfl,g_x,d_x,g_y,d_y,lo_m,hi_m,lo_u,hi_u,g_s,d_s,k0⟩:=h
 refine ⟨_,(zE (zM (i:=5) Y2.nd rfl (Or.inl rfl) (zP zc (zP zt (pv 2) (pv 3)) (zH ix_tup (pv 4) zC (λ_ _=>rfl))))
   (zE (zM (i:=6) Y2.nd rfl (Or.inl rfl) (zI aW (by decide) hr (by rfl) zG (zA (pv 0) (zA (zI bM (by decide) hr (by rfl) zG (zA (zP ZW (zP zc (pv 2) (zH ix_tup (pv 4) zC (λ_ _=>rfl))) (zP zc (pv 3) (zH ix_tup (pv 4) zC (λ_ _=>rfl)))) (zA (pv 5) zB))) zB))))
   (zE (zM (i:=7) Y2.nd rfl (Or.inl rfl) (zI aW (by decide) hr (by rfl) zG (zA (pv 1) (zA (zI bM (by decide) hr (by rfl) zG (zA (zP zc (pv 3) (zP zt (zH ix_tup (pv 4) zC (λ_ _=>rfl)) (zH ix_tup (pv 4) zC (λ_ _=>rfl)))) (zA (pv 5) zB))) zB))))
   (zF (zL (zI aN (by decide) hr (by rfl) zG (zA (pv 6) (zA (pv 7) zB)))))))),?_⟩
 try dsimp only [cxK,cxK0]
 refine ⟨_,rfl,_,rfl,_,_,rfl,rfl,_,rfl,p_s,_,_,_,rfl,rfl,g_s,rfl,_,_,rfl,rfl,((Bd.add ((Bd.small (i:=m) (by omega) (by omega)).mono (n:=64) (by decide)) ((Bd.small (i:=u) (by omega) (by omega)).mono (n:=64) (by decide))).ok d_s.2 (by decide)),?_⟩
 refine ⟨_,rfl,_,rfl,_,rfl,p_s,_,_,_,rfl,rfl,g_s,rfl,_,_,rfl,rfl,((Bd.small (i:=m) (by omega) (by omega)).ok d_s.2 (by decide)),_,rfl,_,rfl,p_s,_,_,_,rfl,rfl,g_s,rfl,_,_,rfl,rfl,((Bd.small (i:=u) (by omega) (by omega)).ok d_s.1 (by decide)),_,_,rfl,rfl,_,rfl,_,_,rfl,((Bd.mul (Bd.add ((Bd.small (i:=m) (by omega) (by omega)).mono (n:=64) (by decide)) ((Bd.small (i:=u) (by omega) (by omega)).mono (n:=64) (by decide))) d_s.2).mono (by decide)),(by exact Jt (by omega) (by omega)),λp_r4 H4 s4 g_r4=>?_⟩
 have d_r4:FB 129 (Rat.divInt (((m * (((s).den:Nat):Int)) - (u * (s).num))) (((m+u) * (((s).den:Nat):Int)))):=(FB.mono (FB.fit (by exact Jt (by omega) (by omega)) ((Bd.sub ((Bd.mul (Bd.small (i:=m) (by omega) (by omega)) d_s.2).mono (n:=128) (by decide)) ((Bd.mul (Bd.small (i:=u) (by omega) (by omega)) d_s.1).mono (n:=128) (by decide))).mono (n:=129) (by decide)) ((Bd.mul (Bd.add ((Bd.small (i:=m) (by omega) (by omega)).mono (n:=64) (by decide)) ((Bd.small (i:=u) (by omega) (by omega)).mono (n:=64) (by decide))) d_s.2).mono (n:=129) (by decide))) (by decide))
 replace g_x:=(Kw.Same.tup s4 g_x);refine ⟨_,_,_,_,rfl,g_x,(FB.mono d_x (by decide)),g_r4,(FB.mono d_r4 (by decide)),λp_r5 H5 s5 g_r5=>?_⟩
 have d_r5:FB 2119 (x * ((Rat.divInt (((m * (((s).den:Nat):Int)) - (u * (s).num))) (((m+u) * (((s).den:Nat):Int)))))):=(FB.mono (FB.mul d_x d_r4) (by decide))
 replace g_s:=(Kw.Same.tup s5 (Kw.Same.tup s4 g_s));refine ⟨_,rfl,_,rfl,_,rfl,p_s,_,_,_,rfl,rfl,g_s,rfl,_,rfl,p_s,_,_,_,rfl,rfl,g_s,rfl,_,_,rfl,rfl,_,_,rfl,rfl,((Bd.small (i:=u) (by omega) (by omega)).ok (Bd.add (d_s.2.mono (n:=64) (by decide)) (d_s.1.mono (n:=64) (by decide))) (by decide)),_,rfl,_,_,rfl,((Bd.mul (Bd.add ((Bd.small (i:=m) (by omega) (by omega)).mono (n:=64) (by decide)) ((Bd.small (i:=u) (by omega) (by omega)).mono (n:=64) (by decide))) d_s.2).mono (by decide)),(by exact Jt (by omega) (by omega)),λp_r6 H6 s6 g_r6=>?_⟩
 have d_r6:FB 129 (Rat.divInt ((u * ((((s).den:Nat):Int)+(s).num))) (((m+u) * (((s).den:Nat):Int)))):=(FB.mono (FB.fit (by exact Jt (by omega) (by omega)) ((Bd.mul (Bd.small (i:=u) (by omega) (by omega)) (Bd.add (d_s.2.mono (n:=64) (by decide)) (d_s.1.mono (n:=64) (by decide)))).mono (n:=129) (by decide)) ((Bd.mul (Bd.add ((Bd.small (i:=m) (by omega) (by omega)).mono (n:=64) (by decide)) ((Bd.small (i:=u) (by omega) (by omega)).mono (n:=64) (by decide))) d_s.2).mono (n:=129) (by decide))) (by decide))
 replace g_y:=(Kw.Same.tup s6 (Kw.Same.tup s5 (Kw.Same.tup s4 g_y)));refine ⟨_,_,_,_,rfl,g_y,(FB.mono d_y (by decide)),g_r6,(FB.mono d_r6 (by decide)),λp_r7 H7 s7 g_r7=>?_⟩
 have d_r7:FB 2119 (y * ((Rat.divInt ((u * ((((s).den:Nat):Int)+(s).num))) (((m+u) * (((s).den:Nat):Int)))))):=(FB.mono (FB.mul d_y d_r6) (by decide))
 replace g_r5:=(Kw.Same.tup s7 (Kw.Same.tup s6 g_r5));refine ⟨_,rfl,_,rfl,_,_,_,_,rfl,g_r5,(FB.mono d_r5 (by decide)),g_r7,(FB.mono d_r7 (by decide)),λp_r8 H8 s8 g_r8=>?_⟩
 have d_r8:FB 4239 (((x * ((Rat.divInt (((m * (((s).den:Nat):Int)) - (u * (s).num))) (((m+u) * (((s).den:Nat):Int)))))))+((y * ((Rat.divInt ((u * ((((s).den:Nat):Int)+(s).num))) (((m+u) * (((s).den:Nat):Int)))))))):=(FB.mono (FB.add d_r5 d_r7) (by decide))
 have e9:((((x * ((Rat.divInt (((m * (((s).den:Nat):Int)) - (u * (s).num))) (((m+u) * (((s).den:Nat):Int)))))))+((y * ((Rat.divInt ((u * ((((s).den:Nat):Int)+(s).num))) (((m+u) * (((s).den:Nat):Int)))))))):Rat)=mixS x y m u s:=by rfl
 exact k0 _ _ (s4.trans (s5.trans (s6.trans (s7.trans s8)))) (FQ.cast g_r8 e9)
noncomputable def sp_behind (K:Frag):Sp:=λvs H Q _=>∃ (p a c:Addr) (x v:Rat) (m:Int) (p' a' c':Addr) (x' v':Rat) (m':Int) (sh:Addr),vs=[.ref p,.ref p',.ref sh]/\SqT K H p [.ref a,.ref c,.int m]/\FQ K H a x/\FQ K H c v/\FB 1990 x/\FB 1990 v/\1<=m/\m<=10000/\SqT K H p' [.ref a',.ref c',.int m']/\FQ K H a' x'/\FQ K H c' v'/\FB 1990 x'/\FB 1990 v'/\1<=m'/\m'<=10000/\FQ K H sh ((1:Int):Rat)/\∀ (r f1 f2:Addr) (H1:Hp),Same H H1->SqT K H1 r [.ref f1,.ref f2,.int m]->FQ K H1 f1 (mixQ x x' m m')->FQ K H1 f2 (mixQ v v' m m')->Q (.ref r) H1
theorem JG:FnScope ["one","other","share","place","speed"] ["one","other","share"] (zD (top 27)):={}
theorem ok_behind (D:Df K mg "behind" (top 27) ["one","other","share"]) (T:Tx K mg C) (dH:Fn P w K mg base 3 "mixed" ["own","far","weight","mass","share"] (sp_mixed K)):Fn P w K mg base 4 "behind" ["one","other","share"] (sp_behind K):=by
 refine D.ok0 JG (λvs H Q E h=>?_) (λf cdv A outer s H vs Q E hr h=>?_)
 ·obtain ⟨p,a,c,x,v,m,p',a',c',x',v',m',sh,rfl,_⟩:=h;rfl
 obtain ⟨p,a,c,x,v,m,p',a',c',x',v',m',sh,rfl,hp,ga,gc,da,dc,m1,m2,hp',ga',gc',da',dc',m1',m2',gsh,k⟩:=h
 refine ⟨_,(zE (zM (i:=3) JG.nd rfl (Or.inl rfl) (zI dH (by decide) hr (by rfl) zG (zA (zH ix_tup (pv 0) zC (λ_ _=>rfl)) (zA (zH ix_tup (pv 1) zC (λ_ _=>rfl)) (zA (zH ix_tup (pv 0) zC (λ_ _=>rfl)) (zA (zH ix_tup (pv 1) zC (λ_ _=>rfl)) (zA (pv 2) zB)))))))
   (zE (zM (i:=4) JG.nd rfl (Or.inl rfl) (zI dH (by decide) hr (by rfl) zG (zA (zH ix_tup (pv 0) zC (λ_ _=>rfl)) (zA (zH ix_tup (pv 1) zC (λ_ _=>rfl)) (zA (zH ix_tup (pv 0) zC (λ_ _=>rfl)) (zA (zH ix_tup (pv 1) zC (λ_ _=>rfl)) (zA (pv 2) zB)))))))
   (zF (zL (zQ (zA (pv 3) (zA (pv 4) (zA (zH ix_tup (pv 0) zC (λ_ _=>rfl)) zB)))))))),?_⟩
 try dsimp only [cxK,cxK0]
 have ds:FB 64 ((1:Int):Rat):=FB.ofInt (Bd.small (i:=1) (by decide) (by decide)) (by decide)
 refine ⟨_,rfl,p,_,_,_,rfl,rfl,hp,rfl,_,rfl,p',_,_,_,rfl,rfl,hp',rfl,_,rfl,p,_,_,_,rfl,rfl,hp,rfl,_,rfl,p',_,_,_,rfl,rfl,hp',rfl,_,rfl,a,x,a',x',m,m',sh,_,rfl,ga,da,ga',da',m1,m2,m1',m2',gsh,ds,λr1 H1 s1 g1=>?_⟩
 have cP:=Kw.Same.tup s1 hp;have fh:=Kw.Same.tup s1 hp';refine ⟨_,rfl,p,_,_,_,rfl,rfl,cP,rfl,_,rfl,p',_,_,_,rfl,rfl,fh,rfl,_,rfl,p,_,_,_,rfl,rfl,cP,rfl,_,rfl,p',_,_,_,rfl,rfl,fh,rfl,_,rfl,c,v,c',v',m,m',sh,_,rfl,Kw.Same.tup s1 gc,dc,Kw.Same.tup s1 gc',dc',m1,m2,m1',m2',Kw.Same.tup s1 gsh,ds,λr2 H2 s2 g2=>?_⟩
 have cG:=Kw.Same.tup s2 cP;refine ⟨_,rfl,_,rfl,_,rfl,p,_,_,_,rfl,rfl,cG,rfl,by show 3<=sizeLine; decide,?_⟩
 intro p3 n3;obtain ⟨H3,q3,s3,e3⟩:=newO n3 (.tup [.ref r1,.ref r2,.int m]);rw [q3];clear q3;exact k p3 r1 r2 H3 (s1.trans (s2.trans s3)) (SqT.of e3) (FQ.cast (Kw.Same.tup (s2.trans s3) g1) (mixS_one _ _ _ _)) (FQ.cast (Kw.Same.tup s3 g2) (mixS_one _ _ _ _))
noncomputable def Zm (K:Frag):Sp:=λvs H Q _=>∃ (p_x:Addr) (x:Rat),vs=[.ref p_x]/\FQ K H p_x x/\FB 3900 x/\(∀ (p_r:Addr) (H1:Hp),Same H H1->FQ K H1 p_r (-x)->Q (.ref p_r) H1)
theorem sc_turned_about:FnScope ["number"] ["number"] (zD (top 52)):={}
theorem ok_turned_about (D:Df K mg "turned_about" (top 52) ["number"]) (T:Tx K mg C) (aI:Fn P w K mg base 3 "minus" ["one","other"] (YC K)):Fn P w K mg base 4 "turned_about" ["number"] (Zm K):=by
 refine D.ok0 sc_turned_about (λvs H Q E h=>?_) (λf cdv A outer s H vs Q E hr h=>?_)
 ·obtain ⟨p_x,x,rfl,_⟩:=h;rfl
 obtain ⟨p_x,x,rfl,g_x,d_x,k0⟩:=h;refine ⟨_,(zF (zL (zI aI (by decide) hr (by rfl) zG (zA (zr (K:=K) rfl (by rfl) T.k_NOUGHT) (zA (pv 0) zB))))),?_⟩
 try dsimp only [cxK,cxK0]
 refine λHq oU=>?_
 have Hr:FQ K H Hq (((0:Int)):Rat):=oU _;refine ⟨_,rfl,_,_,_,_,rfl,Hr,(FB.mono (FB.ofInt (Bd.small (i:=0) (by decide) (by decide)) (by decide)) (by decide)),g_x,(FB.mono d_x (by decide)),λp_r11 b6 bJ g_r11=>?_⟩
 have d_r11:FB 3965 (((((0:Int):Rat))) - x):=(FB.mono (FB.sub (FB.ofInt (Bd.small (i:=0) (by decide) (by decide)) (by decide)) d_x) (by decide))
 have dQ:((((((0:Int):Rat))) - x):Rat)=-x:=by grind
 exact k0 _ _ bJ (FQ.cast g_r11 dQ)
noncomputable def sp_parted (K:Frag):Sp:=λvs H Q _=>∃ (z y:V) (a b:Rat × Rat × Option Int),vs=[z,y]/\GoQ K 1990 H z a/\GoQ K 1990 H y b/\(b.2.2=none\/a.2.2≠none)/\FB 1990 (ptd a b).1/\FB 1990 (ptd a b).2/\∀ (r f1 f2:Addr) (ys:List V) (H1:Hp),Same H H1->SqT K H1 r (.ref f1::.ref f2::ys)->FQ K H1 f1 (ptd a b).1->FQ K H1 f2 (ptd a b).2->Q (.ref r) H1
theorem sc_parted:FnScope ["own","far"] ["own","far"] (zD (top 63)):={}
theorem ok_parted (D:Df K mg "parted" (top 63) ["own","far"]) (T:Tx K mg C) (aI:Fn P w K mg base 3 "minus" ["one","other"] (YC K)) (aN:Fn P w K mg base 2 "plus" ["one","other"] (YJ K)) (bN:Fn P w K mg base 4 "turned_about" ["number"] (Zm K)) (eE:Fn P w K mg base 4 "behind" ["one","other","share"] (sp_behind K)):Fn P w K mg base 5 "parted" ["own","far"] (sp_parted K):=by
 refine D.ok0 sc_parted (λvs H Q E h=>?_) (λf cdv A outer s H vs Q E hr h=>?_)
 ·obtain ⟨z,y,a,b,rfl,_⟩:=h;rfl
 obtain ⟨z,y,a,b,rfl,⟨p,pa,pc,rfl,hp,ga,gc,da,dc,wa⟩,⟨p',pa',pc',rfl,hp',ga',gc',da',dc',wb⟩,hn,f1,f2,k⟩:=h
 refine ⟨_,(zE (zf (zR J1 (zH ix_tup (pv 1) zC (λ_ _=>rfl)) jC (zS _)) (zF (zL (zQ (zA (zI aI (by decide) hr (by rfl) zG (zA (zI aN (by decide) hr (by rfl) zG (zA (zH ix_tup (pv 1) zC (λ_ _=>rfl)) (zA (zH ix_tup (pv 1) zC (λ_ _=>rfl)) zB))) (zA (zH ix_tup (pv 0) zC (λ_ _=>rfl)) zB))) (zA (zI bN (by decide) hr (by rfl) zG (zA (zH ix_tup (pv 0) zC (λ_ _=>rfl)) zB)) (zA (zH ix_tup (pv 0) zC (λ_ _=>rfl)) zB)))))) zX)
   (zF (zL (zI eE (by decide) hr (by rfl) zG (zA (pv 0) (zA (pv 1) (zA (zr (K:=K) rfl (by rfl) T.k_ALL) zB))))))),?_⟩
 try dsimp only [cxK,cxK0]
 obtain ⟨x,v,om⟩:=a;obtain ⟨x',v',ou⟩:=b;cases ou with
 |none=>
  refine ⟨_,rfl,p',_,_,_,rfl,rfl,hp',rfl,rfl,_,rfl,iteT ?_⟩;refine ⟨_,rfl,p',_,_,_,rfl,rfl,hp',rfl,_,rfl,p',_,_,_,rfl,rfl,hp',rfl,_,_,_,_,rfl,ga',da'.mono (by decide),ga',da'.mono (by decide),λr1 H1 s1 k1=>?_⟩
  have cP:=Kw.Same.tup s1 hp;have d1:FB 3981 (x'+x'):=FB.add da' da';refine ⟨_,rfl,p,_,_,_,rfl,rfl,cP,rfl,r1,_,pa,_,rfl,k1,d1.mono (by decide),Kw.Same.tup s1 ga,da.mono (by decide),λr2 H2 s2 k2=>?_⟩
  have cG:=Kw.Same.tup s2 cP;refine ⟨_,rfl,p,_,_,_,rfl,rfl,cG,rfl,pc,_,rfl,Kw.Same.tup (s1.trans s2) gc,dc.mono (by decide),λr3 H3 s3 k3=>?_⟩
  have fV:=Kw.Same.tup s3 cG;refine ⟨_,rfl,p,_,_,_,rfl,rfl,fV,rfl,by show 3<=sizeLine; decide,?_⟩
  intro p4 n4;obtain ⟨H4,q4,s4,e4⟩:=newO n4 (.tup [.ref r2,.ref r3,wV om]);rw [q4];clear q4;exact k p4 r2 r3 [wV om] H4 (s1.trans (s2.trans (s3.trans s4))) (SqT.of e4) (Kw.Same.tup (s3.trans s4) k2) (Kw.Same.tup s4 k3)
 |some u=>
  cases om with
  |none=>rcases hn with hn|hn<;>exact absurd hn (by simp)
  |some m=>
   have w1:=wa m rfl;have w2:=wb u rfl;refine ⟨_,rfl,p',_,_,_,rfl,rfl,hp',rfl,rfl,_,rfl,iteF ?_⟩;refine ⟨_,rfl,_,rfl,λN hN=>?_⟩
   have gN:FQ K H N (((1:Int)):Rat):=hN _;exact ⟨p,pa,pc,x,v,m,p',pa',pc',x',v',u,N,rfl,hp,ga,gc,da,dc,by omega,by omega,hp',ga',gc',da',dc',by omega,by omega,gN,λr f1 f2 H1 s1 h1 h2 h3=>k r f1 f2 [.int m] H1 s1 h1 h2 h3⟩
noncomputable def Zp (K:Frag):Sp:=λvs H Q _=>∃ (z y:V) (a b:Rat × Rat × Option Int),vs=[z,y]/\GoQ K 1990 H z a/\GoQ K 1990 H y b/\(a.2.1<=b.2.1->∀ H1,Same H H1->Q .non H1)/\(¬ a.2.1<=b.2.1->∀ (r:Addr) (H1:Hp),Same H H1->FQ K H1 r ((b.1 - a.1) / (a.2.1 - b.2.1))->Q (.ref r) H1)
theorem Zd:FnScope ["one","other","gain"] ["one","other"] (zD (top 25)):={}
theorem ok_joint_moment (D:Df K mg "joint_moment" (top 25) ["one","other"]) (T:Tx K mg C) (aI:Fn P w K mg base 3 "minus" ["one","other"] (YC K)) (gm:Fn P w K mg base 3 "over" ["one","other"] (sp_over K)):Fn P w K mg base 4 "joint_moment" ["one","other"] (Zp K):=by
 refine D.ok0 Zd (λvs H Q E h=>?_) (λf cdv A outer s H vs Q E hr h=>?_)
 ·obtain ⟨z,y,a,b,rfl,_⟩:=h;rfl
 obtain ⟨z,y,⟨x,v,om⟩,⟨x',v',ou⟩,rfl,⟨p,pa,pc,rfl,hp,ga,gc,da,dc,wa⟩,⟨p',pa',pc',rfl,hp',ga',gc',da',dc',wb⟩,kn,ks⟩:=h
 refine ⟨_,(zE (zM (i:=2) Zd.nd rfl (Or.inl rfl) (zI aI (by decide) hr (by rfl) zG (zA (zH ix_tup (pv 0) zC (λ_ _=>rfl)) (zA (zH ix_tup (pv 1) zC (λ_ _=>rfl)) zB))))
   (zE (zf (zR J4 (zH ix_tup (pv 2) zC (λ_ _=>rfl)) zC (zS _)) (zF (zL jC)) zX)
   (zF (zL (zI gm (by decide) hr (by rfl) zG (zA (zI aI (by decide) hr (by rfl) zG (zA (zH ix_tup (pv 1) zC (λ_ _=>rfl)) (zA (zH ix_tup (pv 0) zC (λ_ _=>rfl)) zB))) (zA (pv 2) zB))))))),?_⟩
 try dsimp only [cxK,cxK0]
 refine ⟨_,rfl,p,_,_,_,rfl,rfl,hp,rfl,_,rfl,p',_,_,_,rfl,rfl,hp',rfl,pc,v,pc',v',rfl,gc,dc.mono (by decide),gc',dc'.mono (by decide),λr1 H1 s1 g1=>?_⟩
 have Hs:SqT K H1 r1 [.int (v - v').num,.int (((v - v').den:Nat):Int)]:=g1;refine ⟨_,rfl,r1,_,_,_,rfl,rfl,Hs,rfl,_,_,rfl,rfl,_,rfl,?_⟩;refine zd (λcc=>?_) (λcc=>?_)
 ·have:=(q_le0 (v - v')).mp cc;exact kn (by dsimp only; grind) H1 s1
 ·have pos:=mt (q_le0 (v - v')).mpr cc;have cP:=Kw.Same.tup s1 hp;have fh:=Kw.Same.tup s1 hp';refine ⟨_,rfl,p',_,_,_,rfl,rfl,fh,rfl,_,rfl,p,_,_,_,rfl,rfl,cP,rfl,pa',x',pa,x,rfl,Kw.Same.tup s1 ga',da'.mono (by decide),Kw.Same.tup s1 ga,da.mono (by decide),λr2 H2 s2 g2=>?_⟩
  refine ⟨_,rfl,r2,_,r1,_,rfl,g2,(FB.sub da' da).mono (by decide),Kw.Same.tup s2 g1,(FB.sub dc dc').mono (by decide),(by dsimp only at *; grind),λr3 H3 s3 g3=>?_⟩
  exact ks (by dsimp only; grind) r3 H3 (s1.trans (s2.trans s3)) g3
noncomputable def jb (K:Frag) (C:Addr):Sp:=λvs H Q _=>∃ (p pb l:Addr) (R:Rat × Rat) (gs:List Bq) (dx:Addr) (fs:List (Str × V)) (wl g:Addr) (xs:List V) (q:Pr) (ys:List V) (bs:List Bq) (N:Nat),vs=[.ref p,.ref pb,.ref l]/\PlG K H C p R gs dx fs wl g xs/\H pb=some (.tup ((keyP q).map kV))/\H l=some (.lst ys)/\Al2 (BqH K N H) ys bs/\InP bs.length q/\1990<=N/\∀ (v:V) (H1:Hp),Same H H1->BqH K N H1 v (boxB R bs q.1 q.2.1)->Q v H1
theorem sc_Plane_one_of:FnScope ["self","pair","boxes"] ["self","pair","boxes"] (zD (zO (top 65) 1)):={}
theorem ok_Plane_one_of (D:DfM K (C 0) "one_of" "Plane.one_of" (zO (top 65) 1) ["self","pair","boxes"]) (T:Tx K mg C):FnM P w K mg base 1 (C 0) "one_of" ["self","pair","boxes"] (jb K (C 0)):=by
 refine D.ok0 sc_Plane_one_of (λvs H Q E h=>?_) (λf cdv A outer s H vs Q E hr h=>?_)
 ·obtain ⟨p,pb,l,R,gs,dx,fs,wl,g,xs,q,ys,bs,N,rfl,_⟩:=h;rfl
 obtain ⟨p,pb,l,R,gs,dx,fs,wl,g,xs,q,ys,bs,N,rfl,pg,hb,hl,al,hin,hN,k⟩:=h;refine ⟨_,(zF (zL (pe_ifExp (zR Y7 (zH ix_tup (pv 1) zC (λ_ _=>rfl)) zC (zS _)) (zH ix_list (pv 2) (zH ix_tup (pv 1) zC (λ_ _=>rfl)) (λ_ _=>rfl)) (ZZ (YT (u100 hr)) (zW T.cl_Plane T.n_Plane_walls (pv 0)) (zQ (zA (zH ix_tup (pv 1) zC (λ_ _=>rfl)) (zA (zH ix_tup (pv 1) zC (λ_ _=>rfl)) zB))) (λ_ _=>rfl))))),?_⟩
 try dsimp only [cxK,cxK0]
 have hq:SqT K H pb [.int (q.1:Int),.int q.2.1,.int q.2.2]:=SqT.of hb;have hz:=Al2.len al;refine ⟨_,rfl,pb,_,_,_,rfl,rfl,hq,rfl,_,_,rfl,rfl,_,rfl,?_⟩;refine zd (λc=>?_) (λc=>?_)
 ·obtain ⟨i,hi,ei⟩:∃ i,i < bs.length/\q.2.1=(i:Int):=by
   rcases hin.2.1 with z|z
   ·rw [z] at c;exact absurd c (by decide)
   ·exact z
  obtain ⟨y,hy⟩:∃ y,ys[i]?=some y:=⟨_,List.getElem?_eq_getElem (by omega)⟩
  obtain ⟨b,hb',hyb⟩:=Al2.get al hy;have e:boxB R bs q.1 q.2.1=b:=by
   unfold boxB bxAt;rw [if_pos c,ei,Int.toNat_natCast,List.getD_eq_getElem?_getD,hb'];rfl
  refine ⟨_,rfl,_,rfl,pb,_,_,_,rfl,rfl,hq,rfl,l,_,_,_,rfl,rfl,SqL.of hl,by rw [ei]; exact yA hy,?_⟩
  exact k y H (Same.refl _) (by rw [e]; exact hyb)
 ·have ci:q.2.1=-1\/q.2.1=-2:=by
   rcases hin.2.1 with z|⟨i,_,z⟩
   ·exact .inl z
   ·exact absurd (show 0<=q.2.1 by omega) c
  have e:boxB R bs q.1 q.2.1=yh R q.1 q.2.1:=by
   unfold boxB;rw [if_neg c]
  refine ⟨_,rfl,p,_,_,_,rfl,pg.ob,pg.fw,_,rfl,pb,_,_,_,rfl,rfl,hq,rfl,_,rfl,pb,_,_,_,rfl,rfl,hq,rfl,by show 2<=sizeLine; decide,?_⟩
  intro p1 n1;obtain ⟨H1,q1,s1,e1⟩:=newO n1 (.tup [.int (q.1:Int),.int q.2.1]);rw [q1];clear q1;obtain ⟨w,kvs,hw,hv,hb'⟩:=(pg.ws.same s1).get (d:=q.1) (i:=q.2.1) hin.1 ci;refine ⟨wl,w,rfl,?_,k w H1 s1 (by rw [e]; exact hb'.mono hN)⟩
  have z:=DGet.t (k:=keyW q.1 q.2.1) hw (b:=p1) e1;rw [hv] at z;exact z
noncomputable def y4 (K:Frag) (C:Addr):Sp:=λvs H Q _=>∃ (p pb l:Addr) (R:Rat × Rat) (gs:List Bq) (dx:Addr) (fs:List (Str × V)) (wl g:Addr) (xs:List V) (q:Pr) (ys:List V) (bs:List Bq) (N:Nat),vs=[.ref p,.ref pb,.ref l]/\PlG K H C p R gs dx fs wl g xs/\H pb=some (.tup ((keyP q).map kV))/\H l=some (.lst ys)/\Al2 (BqH K N H) ys bs/\InP bs.length q/\1990<=N/\∀ (v:V) (H1:Hp),Same H H1->BqH K N H1 v (boxB R bs q.1 q.2.2)->Q v H1
theorem sc_Plane_other_of:FnScope ["self","pair","boxes"] ["self","pair","boxes"] (zD (zO (top 65) 2)):={}
theorem ok_Plane_other_of (D:DfM K (C 0) "other_of" "Plane.other_of" (zO (top 65) 2) ["self","pair","boxes"]) (T:Tx K mg C):FnM P w K mg base 1 (C 0) "other_of" ["self","pair","boxes"] (y4 K (C 0)):=by
 refine D.ok0 sc_Plane_other_of (λvs H Q E h=>?_) (λf cdv A outer s H vs Q E hr h=>?_)
 ·obtain ⟨p,pb,l,R,gs,dx,fs,wl,g,xs,q,ys,bs,N,rfl,_⟩:=h;rfl
 obtain ⟨p,pb,l,R,gs,dx,fs,wl,g,xs,q,ys,bs,N,rfl,pg,hb,hl,al,hin,hN,k⟩:=h;refine ⟨_,(zF (zL (pe_ifExp (zR Y7 (zH ix_tup (pv 1) zC (λ_ _=>rfl)) zC (zS _)) (zH ix_list (pv 2) (zH ix_tup (pv 1) zC (λ_ _=>rfl)) (λ_ _=>rfl)) (ZZ (YT (u100 hr)) (zW T.cl_Plane T.n_Plane_walls (pv 0)) (zQ (zA (zH ix_tup (pv 1) zC (λ_ _=>rfl)) (zA (zH ix_tup (pv 1) zC (λ_ _=>rfl)) zB))) (λ_ _=>rfl))))),?_⟩
 try dsimp only [cxK,cxK0]
 have hq:SqT K H pb [.int (q.1:Int),.int q.2.1,.int q.2.2]:=SqT.of hb;have hz:=Al2.len al;refine ⟨_,rfl,pb,_,_,_,rfl,rfl,hq,rfl,_,_,rfl,rfl,_,rfl,?_⟩;refine zd (λc=>?_) (λc=>?_)
 ·obtain ⟨i,hi,ei⟩:∃ i,i < bs.length/\q.2.2=(i:Int):=by
   rcases hin.2.2.1 with z|z
   ·rw [z] at c;exact absurd c (by decide)
   ·exact z
  obtain ⟨y,hy⟩:∃ y,ys[i]?=some y:=⟨_,List.getElem?_eq_getElem (by omega)⟩
  obtain ⟨b,hb',hyb⟩:=Al2.get al hy;have e:boxB R bs q.1 q.2.2=b:=by
   unfold boxB bxAt;rw [if_pos c,ei,Int.toNat_natCast,List.getD_eq_getElem?_getD,hb'];rfl
  refine ⟨_,rfl,_,rfl,pb,_,_,_,rfl,rfl,hq,rfl,l,_,_,_,rfl,rfl,SqL.of hl,by rw [ei]; exact yA hy,?_⟩
  exact k y H (Same.refl _) (by rw [e]; exact hyb)
 ·have ci:q.2.2=-1\/q.2.2=-2:=by
   rcases hin.2.2.1 with z|⟨i,_,z⟩
   ·exact .inr z
   ·exact absurd (show 0<=q.2.2 by omega) c
  have e:boxB R bs q.1 q.2.2=yh R q.1 q.2.2:=by
   unfold boxB;rw [if_neg c]
  refine ⟨_,rfl,p,_,_,_,rfl,pg.ob,pg.fw,_,rfl,pb,_,_,_,rfl,rfl,hq,rfl,_,rfl,pb,_,_,_,rfl,rfl,hq,rfl,by show 2<=sizeLine; decide,?_⟩
  intro p1 n1;obtain ⟨H1,q1,s1,e1⟩:=newO n1 (.tup [.int (q.1:Int),.int q.2.2]);rw [q1];clear q1;obtain ⟨w,kvs,hw,hv,hb'⟩:=(pg.ws.same s1).get (d:=q.1) (i:=q.2.2) hin.1 ci;refine ⟨wl,w,rfl,?_,k w H1 s1 (by rw [e]; exact hb'.mono hN)⟩
  have z:=DGet.t (k:=keyW q.1 q.2.2) hw (b:=p1) e1;rw [hv] at z;exact z
noncomputable def ZU (K:Frag) (C:Addr):Sp:=λvs H Q _=>∃ (p pb:Addr) (R:Rat × Rat) (gs:List Bq) (dx:Addr) (fs:List (Str × V)) (wl g:Addr) (xs:List V) (q:Pr),vs=[.ref p,.ref pb]/\PlG K H C p R gs dx fs wl g xs/\H pb=some (.tup ((keyP q).map kV))/\InP gs.length q/\FB 1990 ((boxB R gs q.1 q.2.1).far q.1)/\(∀ t,jntP R gs q=some t->FB 2000 t)/\∀ (v:V) (H1:Hp),Same H H1->OptB K H1 v (jntP R gs q)->Q v H1
theorem yw:FnScope ["self","pair","one","other"] ["self","pair"] (zD (zO (top 65) 3)):={}
theorem ok_Plane_joint_of (D:DfM K (C 0) "joint_of" "Plane.joint_of" (zO (top 65) 3) ["self","pair"]) (T:Tx K mg C) (aS:Fn P w K mg base 4 "far_going" ["box","way"] (Za K)) (ai:FnM P w K mg base 1 (C 0) "one_of" ["self","pair","boxes"] (jb K (C 0))) (aO:Fn P w K mg base 1 "near_going" ["box","way"] (ZH K)) (ae:FnM P w K mg base 1 (C 0) "other_of" ["self","pair","boxes"] (y4 K (C 0))) (bO:Fn P w K mg base 4 "joint_moment" ["one","other"] (Zp K)):FnM P w K mg base 5 (C 0) "joint_of" ["self","pair"] (ZU K (C 0)):=by
 refine D.ok0 yw (λvs H Q E h=>?_) (λf cdv A outer s H vs Q E hr h=>?_)
 ·obtain ⟨p,pb,R,gs,dx,fs,wl,g,xs,q,rfl,_⟩:=h;rfl
 obtain ⟨p,pb,R,gs,dx,fs,wl,g,xs,q,rfl,pg,hb,hin,fb,ft,k⟩:=h
 refine ⟨_,(zE (zM (i:=2) yw.nd rfl (Or.inl rfl) (zI aS (by decide) hr (by rfl) zG (zA (yb T.cl_Plane ai (by decide) hr zG (pv 0) (zA (pv 1) (zA (zW T.cl_Plane T.n_Plane_goings (pv 0)) zB))) (zA (zH ix_tup (pv 1) zC (λ_ _=>rfl)) zB))))
   (zE (zM (i:=3) yw.nd rfl (Or.inl rfl) (zI aO (by decide) hr (by rfl) zG (zA (yb T.cl_Plane ae (by decide) hr zG (pv 0) (zA (pv 1) (zA (zW T.cl_Plane T.n_Plane_goings (pv 0)) zB))) (zA (zH ix_tup (pv 1) zC (λ_ _=>rfl)) zB))))
   (zF (zL (zI bO (by decide) hr (by rfl) zG (zA (pv 2) (zA (pv 3) zB))))))),?_⟩
 try dsimp only [cxK,cxK0]
 have hq:SqT K H pb [.int (q.1:Int),.int q.2.1,.int q.2.2]:=SqT.of hb;refine ⟨_,rfl,p,_,_,rfl,pg.ob,pg.nm.one_of,_,rfl,_,rfl,p,_,_,_,rfl,pg.ob,pg.fg,p,pb,g,R,gs,dx,fs,wl,g,xs,q,xs,gs,1990,rfl,pg,hb,pg.hg,pg.al,hin,Nat.le_refl _,λv1 H1 s1 k1=>?_⟩
 have gp:=Kw.Same.tup s1 hq;refine ⟨_,rfl,pb,_,_,_,rfl,rfl,gp,rfl,v1,_,q.1,rfl,k1,hin.1,fb,λr2 H2 s2 k2=>?_⟩
 have ao:=s1.trans s2;have bX:=pg.same ao;refine ⟨_,rfl,p,_,_,rfl,bX.ob,bX.nm.other_of,_,rfl,_,rfl,p,_,_,_,rfl,bX.ob,bX.fg,p,pb,g,R,gs,dx,fs,wl,g,xs,q,xs,gs,1990,rfl,bX,ao _ _ hb,bX.hg,bX.al,hin,Nat.le_refl _,λv3 H3 s3 k3=>?_⟩
 have aJ:=ao.trans s3;have Ht:=Kw.Same.tup aJ hq;refine ⟨_,rfl,pb,_,_,_,rfl,rfl,Ht,rfl,v3,_,q.1,rfl,k3,hin.1,λr4 H4 s4 k4=>?_⟩
 have bB:=aJ.trans s4;refine ⟨_,rfl,_,rfl,_,_,farG (boxB R gs q.1 q.2.1) q.1,zm (boxB R gs q.1 q.2.2) q.1,rfl,k2.same (s3.trans s4),k4,λc H5 s5=>?_,λc r5 H5 s5 g5=>?_⟩
 ·refine k _ H5 (bB.trans s5) (.inl ⟨?_,rfl⟩);unfold jntP;exact if_pos c
 ·have e:jntP R gs q=some (((boxB R gs q.1 q.2.2).pl q.1 - (boxB R gs q.1 q.2.1).far q.1) / ((boxB R gs q.1 q.2.1).sp q.1 - (boxB R gs q.1 q.2.2).sp q.1)):=by
   unfold jntP;exact if_neg c
  exact k _ H5 (bB.trans s5) (.inr ⟨_,r5,e,rfl,g5,ft _ e⟩)
noncomputable def JX (K:Frag) (C:Addr):Sp:=λvs H Q _=>∃ (p pb pt:Addr) (R:Rat × Rat) (gs:List Bq) (dx:Addr) (fs:List (Str × V)) (wl g:Addr) (xs:List V) (q:Pr) (t:Rat),vs=[.ref p,.ref pb,.ref pt]/\PlG K H C p R gs dx fs wl g xs/\H pb=some (.tup ((keyP q).map kV))/\InP gs.length q/\FQ K H pt t/\FB 2000 t/\∀ (H1:Hp),Same H H1->Q (.bl (metP R gs t q)) H1
theorem jE:FnScope ["self","pair","moment","one","other"] ["self","pair","moment"] (zD (zO (top 65) 8)):={}
theorem ok_Plane_meet_at (D:DfM K (C 0) "meet_at" "Plane.meet_at" (zO (top 65) 8) ["self","pair","moment"]) (T:Tx K mg C) (bb:Fn P w K mg base 4 "box_at" ["box","moment"] (JH K)) (ai:FnM P w K mg base 1 (C 0) "one_of" ["self","pair","boxes"] (jb K (C 0))) (ae:FnM P w K mg base 1 (C 0) "other_of" ["self","pair","boxes"] (y4 K (C 0))) (ag:Fn P w K mg base 4 "have_in_common" ["one","other","way"] (yQ K)):FnM P w K mg base 5 (C 0) "meet_at" ["self","pair","moment"] (JX K (C 0)):=by
 refine D.ok0 jE (λvs H Q E h=>?_) (λf cdv A outer s H vs Q E hr h=>?_)
 ·obtain ⟨p,pb,pt,R,gs,dx,fs,wl,g,xs,q,t,rfl,_⟩:=h;rfl
 obtain ⟨p,pb,pt,R,gs,dx,fs,wl,g,xs,q,t,rfl,pg,hb,hin,gt,dt,k⟩:=h
 refine ⟨_,(zE (zM (i:=3) jE.nd rfl (Or.inl rfl) (zI bb (by decide) hr (by rfl) zG (zA (yb T.cl_Plane ai (by decide) hr zG (pv 0) (zA (pv 1) (zA (zW T.cl_Plane T.n_Plane_goings (pv 0)) zB))) (zA (pv 2) zB))))
   (zE (zM (i:=4) jE.nd rfl (Or.inl rfl) (zI bb (by decide) hr (by rfl) zG (zA (yb T.cl_Plane ae (by decide) hr zG (pv 0) (zA (pv 1) (zA (zW T.cl_Plane T.n_Plane_goings (pv 0)) zB))) (zA (pv 2) zB))))
   (zF (zL (zI ag (by decide) hr (by rfl) zG (zA (pv 3) (zA (pv 4) (zA (zP ZW zC (zH ix_tup (pv 1) zC (λ_ _=>rfl))) zB)))))))),?_⟩
 try dsimp only [cxK,cxK0]
 have hq:SqT K H pb [.int (q.1:Int),.int q.2.1,.int q.2.2]:=SqT.of hb;refine ⟨_,rfl,p,_,_,rfl,pg.ob,pg.nm.one_of,_,rfl,_,rfl,p,_,_,_,rfl,pg.ob,pg.fg,p,pb,g,R,gs,dx,fs,wl,g,xs,q,xs,gs,1990,rfl,pg,hb,pg.hg,pg.al,hin,Nat.le_refl _,λv1 H1 s1 k1=>?_⟩
 refine ⟨_,rfl,v1,_,pt,t,rfl,k1,Kw.Same.tup s1 gt,dt,λr2 H2 s2 k2=>?_⟩
 have ao:=s1.trans s2;have bX:=pg.same ao;refine ⟨_,rfl,p,_,_,rfl,bX.ob,bX.nm.other_of,_,rfl,_,rfl,p,_,_,_,rfl,bX.ob,bX.fg,p,pb,g,R,gs,dx,fs,wl,g,xs,q,xs,gs,1990,rfl,bX,ao _ _ hb,bX.hg,bX.al,hin,Nat.le_refl _,λv3 H3 s3 k3=>?_⟩
 have aJ:=ao.trans s3;refine ⟨_,rfl,v3,_,pt,t,rfl,k3,Kw.Same.tup aJ gt,dt,λr4 H4 s4 k4=>?_⟩
 have bB:=aJ.trans s4;have iE:=Kw.Same.tup bB hq;refine ⟨_,rfl,_,rfl,_,rfl,pb,_,_,_,rfl,rfl,iE,rfl,_,_,rfl,rfl,_,_,_,_,1 - q.1,?_,k2.same (s3.trans s4),k4,by omega,λH5 s5=>k H5 (bB.trans s5)⟩
 have h1:=hin.1;rw [show ((1 - q.1:Nat):Int)=1 - (q.1:Int) by omega]
 rfl
noncomputable def yN (K:Frag) (C:Addr):Sp:=λvs H Q _=>∃ (p pb:Addr) (R:Rat × Rat) (gs:List Bq) (dx:Addr) (fs:List (Str × V)) (j:Addr) (kvs:List (List Key × V)) (q:Pr),vs=[.ref p,.ref pb]/\H p=some (.ins C dx fs)/\PlJ K H R gs fs j kvs/\H pb=some (.tup ((keyP q).map kV))/\InP gs.length q/\∀ (H1:Hp),Same H H1->Q (.bl (corP R gs q)) H1
theorem yU:FnScope ["self","pair","aside"] ["self","pair"] (zD (zO (top 65) 9)):={}
theorem ok_Plane_close_at_a_corner (D:DfM K (C 0) "close_at_a_corner" "Plane.close_at_a_corner" (zO (top 65) 9) ["self","pair"]) (T:Tx K mg C):FnM P w K mg base 1 (C 0) "close_at_a_corner" ["self","pair"] (yN K (C 0)):=by
 refine D.ok0 yU (λvs H Q E h=>?_) (λf cdv A outer s H vs Q E hr h=>?_)
 ·obtain ⟨p,pb,R,gs,dx,fs,j,kvs,q,rfl,_⟩:=h;rfl
 obtain ⟨p,pb,R,gs,dx,fs,j,kvs,q,rfl,hp,pj,hb,hin,k⟩:=h
 refine ⟨_,(zE (zf (jz (zR Y6 (zH ix_tup (pv 1) zC (λ_ _=>rfl)) zC (zS _)) (yt (zR Y6 (zH ix_tup (pv 1) zC (λ_ _=>rfl)) zC (zS _)))).pt (zF (zL jL)) zX)
   (zE (zM (i:=2) yU.nd rfl (Or.inl rfl) (zP ZW zC (zH ix_tup (pv 1) zC (λ_ _=>rfl))))
   (zF (zL (ym (op_inOB (K:=K) rfl (u100 hr)) (ZZ (YT (u100 hr)) (zW T.cl_Plane T.n_Plane_joints (pv 0)) (pv 1) (λ_ _=>rfl)) (zQ (zA (ZZ (YT (u100 hr)) (zW T.cl_Plane T.n_Plane_joints (pv 0)) (zQ (zA (pv 2) (zA (zH ix_tup (pv 1) zC (λ_ _=>rfl)) (zA (zH ix_tup (pv 1) zC (λ_ _=>rfl)) zB)))) (λ_ _=>rfl)) (zA (ZZ (YT (u100 hr)) (zW T.cl_Plane T.n_Plane_joints (pv 0)) (zQ (zA (pv 2) (zA (zH ix_tup (pv 1) zC (λ_ _=>rfl)) (zA (zH ix_tup (pv 1) zC (λ_ _=>rfl)) zB)))) (λ_ _=>rfl)) zB))) (by first|rfl|with_unfolding_all rfl)))))),?_⟩
 try dsimp only [cxK,cxK0]
 have hq:SqT K H pb [.int (q.1:Int),.int q.2.1,.int q.2.2]:=SqT.of hb;unfold corP at k;have h1:=hin.1;have get:∀ {H1:Hp} {b:Addr} {q':Pr},Same H H1->InP gs.length q'->H1 b=some (.tup ((keyP q').map kV))->∃ v,DGet H1 j (.ref b) (some v)/\OptB K H1 v (jntP R gs q'):=λ{H1 b q'} s1 hi hb'=>by
  obtain ⟨v,e1,e2⟩:=(pj.same s1).get (zh.mpr hi);exact ⟨v,.inr ⟨kvs,keyP q',b,(pj.same s1).hj,rfl,hb',e1.symm⟩,e2⟩
 refine cut1 (λσ' H'=>σ'=[some (.ref p),some (.ref pb),none]/\H'=H/\0<=q.2.1/\0<=q.2.2) (λN hN=>?_) ?_
 ·refine ⟨_,rfl,pb,_,_,_,rfl,rfl,hq,rfl,_,_,rfl,rfl,_,rfl,?_⟩;refine zd (λc=>?_) (λc=>?_)
  ·refine iteT ?_;have z:=k H (Same.refl _);rw [decide_eq_false (show ¬ 0<=q.2.1 by omega),Bool.false_and] at z
   exact z
  ·refine ⟨_,rfl,pb,_,_,_,rfl,rfl,hq,rfl,_,_,rfl,rfl,_,rfl,?_⟩;refine zd (λc2=>?_) (λc2=>?_)
   ·have z:=k H (Same.refl _);rw [decide_eq_true (show 0<=q.2.1 by omega),decide_eq_false (show ¬ 0<=q.2.2 by omega),Bool.false_and,Bool.and_false] at z
    exact z
   ·exact hN _ _ ⟨rfl,rfl,by omega,by omega⟩
 rintro σ' H' ⟨rfl,rfl,c1,c2⟩;rw [decide_eq_true c1,decide_eq_true c2,Bool.true_and,Bool.true_and] at k;refine ⟨_,rfl,pb,_,_,_,rfl,rfl,hq,rfl,_,_,rfl,rfl,?_⟩;obtain ⟨v0,d0,o0⟩:=get (Same.refl _) hin hb;refine ⟨_,rfl,p,_,_,_,rfl,hp,pj.fj,_,rfl,j,v0,rfl,d0,?_⟩;have i1:InP gs.length (1 - q.1,q.2.1,q.2.2):=⟨by show 1 - q.1<=1; omega,hin.2⟩
 have i2:InP gs.length (1 - q.1,q.2.2,q.2.1):=by
  refine ⟨by show 1 - q.1<=1; omega,.inr ?_,.inr ?_,Ne.symm hin.2.2.2.1,.inl c2⟩
  ·rcases hin.2.2.1 with z|z
   ·exact absurd c2 (by rw [z]; decide)
   ·exact z
  ·rcases hin.2.1 with z|z
   ·exact absurd c1 (by rw [z]; decide)
   ·exact z
 have ed:(1:Int) - (q.1:Int)=((1 - q.1:Nat):Int):=by omega
 refine ⟨_,rfl,p,_,_,_,rfl,hp,pj.fj,_,rfl,_,rfl,pb,_,_,_,rfl,rfl,hq,rfl,_,rfl,pb,_,_,_,rfl,rfl,hq,rfl,by show 3<=sizeLine; decide,?_⟩
 intro p1 n1;obtain ⟨H1,q1,s1,e1⟩:=newO n1 (.tup [.int (1 - (q.1:Int)),.int q.2.1,.int q.2.2]);rw [q1];clear q1;have iz:H1 p1=some (.tup ((keyP (1 - q.1,q.2.1,q.2.2)).map kV)):=by
  rw [e1,ed];rfl
 obtain ⟨v1,d1,o1⟩:=get s1 i1 iz;have gp:=Kw.Same.tup s1 hq;refine ⟨j,v1,rfl,d1,_,rfl,p,_,_,_,rfl,s1 _ _ hp,pj.fj,_,rfl,_,rfl,pb,_,_,_,rfl,rfl,gp,rfl,_,rfl,pb,_,_,_,rfl,rfl,gp,rfl,by show 3<=sizeLine; decide,?_⟩
 intro p2 n2;obtain ⟨H2,q2,s2,e2⟩:=newO n2 (.tup [.int (1 - (q.1:Int)),.int q.2.2,.int q.2.1]);rw [q2];clear q2;have ao:=s1.trans s2;have dM:H2 p2=some (.tup ((keyP (1 - q.1,q.2.2,q.2.1)).map kV)):=by
  rw [e2,ed];rfl
 obtain ⟨v2,d2,o2⟩:=get ao i2 dM;refine ⟨j,v2,rfl,d2,by show 2<=sizeLine; decide,?_⟩
 intro p3 n3;obtain ⟨H3,q3,s3,e3⟩:=newO n3 (.tup [v1,v2]);rw [q3];clear q3;have aJ:=ao.trans s3;exact ⟨p3,v1,v2,_,_,_,rfl,SqT.of e3,o0.same aJ,o1.same (s2.trans s3),o2.same s3,k H3 aJ⟩
noncomputable def YU (K:Frag) (C:Addr):Sp:=λvs H Q _=>∃ (p dx:Addr) (v:V) (now:Rat) (c o:Option Rat) (fs:List (Str × V)) (nw:Addr) (co:V),vs=[.ref p,v]/\H p=some (.ins C dx fs)/\PlC K H now c fs nw co/\OptB K H v o/\∀ (H1:Hp),Same H H1->Q (.bl (Zj now c o)) H1
theorem sc_Plane_is_sooner:FnScope ["self","moment"] ["self","moment"] (zD (zO (top 65) 6)):={}
theorem ok_Plane_is_sooner (D:DfM K (C 0) "is_sooner" "Plane.is_sooner" (zO (top 65) 6) ["self","moment"]) (T:Tx K mg C) (aD:Fn P w K mg base 1 "under" ["one","other"] (Zt K)):FnM P w K mg base 2 (C 0) "is_sooner" ["self","moment"] (YU K (C 0)):=by
 refine D.ok0 sc_Plane_is_sooner (λvs H Q E h=>?_) (λf cdv A outer s H vs Q E hr h=>?_)
 ·obtain ⟨p,dx,v,now,c,o,fs,nw,co,rfl,_⟩:=h;rfl
 obtain ⟨p,dx,v,now,c,o,fs,nw,co,rfl,hp,pc,ov,k⟩:=h
 refine ⟨_,(zE (zf (jz (zR J1 (pv 1) jC (zS _)) (yt (zn (zI aD (by decide) hr (by rfl) zG (zA (pv 1) (zA (zW T.cl_Plane T.n_Plane_now (pv 0)) zB))) (λ_=>rfl)))).pt (zF (zL jL)) zX)
   (zF (zL (pe_or (ym J1 (zW T.cl_Plane T.n_Plane_coming (pv 0)) jC (zS _)) (yS (zI aD (by decide) hr (by rfl) zG (zA (pv 1) (zA (zW T.cl_Plane T.n_Plane_coming (pv 0)) zB)))))))),?_⟩
 try dsimp only [cxK,cxK0]
 rcases ov with ⟨rfl,rfl⟩|⟨t,pt,rfl,rfl,gt,dt⟩
 ·refine ⟨_,rfl,rfl,_,rfl,iteT ?_⟩;refine iteT ?_;exact k H (Same.refl _)
 ·refine ⟨_,rfl,rfl,_,rfl,iteF ?_⟩;refine ⟨_,rfl,_,rfl,p,_,_,_,rfl,hp,pc.fn,pt,t,nw,now,rfl,gt,dt.mono (by decide),pc.gn,pc.dn.mono (by decide),λH1 s1=>⟨_,rfl,?_⟩⟩
  refine zd (λlt=>?_) (λlt=>?_)
  ·have z:=k H1 s1;unfold Zj at z;dsimp only at z;rw [if_pos lt] at z;exact z
  ·unfold Zj at k;dsimp only at k;rw [if_neg lt] at k;have oV:=pc.same s1;refine ⟨_,rfl,p,_,_,_,rfl,s1 _ _ hp,oV.fc,rfl,_,rfl,?_⟩;rcases oV.oc with ⟨ec,eo⟩|⟨sq,ps,ec,eo,gs',ds⟩
   ·rw [ec] at k;rw [eo];exact iteT (k H1 s1)
   ·rw [ec] at k;rw [eo];refine iteF ?_;exact ⟨_,rfl,_,rfl,p,_,_,_,rfl,s1 _ _ hp,oV.fc.trans (by rw [eo]),pt,t,ps,sq,rfl,Kw.Same.tup s1 gt,dt.mono (by decide),gs',ds.mono (by decide),λH2 s2=>k H2 (s1.trans s2)⟩
noncomputable def ZC (K:Frag) (C:Addr):Sp:=λvs H Q _=>∃ (p pb:Addr) (R:Rat × Rat) (gs:List Bq) (dx:Addr) (fs:List (Str × V)) (j:Addr) (kvs:List (List Key × V)) (q:Pr) (c:Option Rat) (co:V),vs=[.ref p,.ref pb]/\H p=some (.ins C dx fs)/\PlJ K H R gs fs j kvs/\H pb=some (.tup ((keyP q).map kV))/\InP gs.length q/\fs.lookup ("coming" : Str)=some co/\OptB K H co c/\Q (.bl (cmgP R gs c q)) H
theorem sc_Plane_is_coming:FnScope ["self","pair"] ["self","pair"] (zD (zO (top 65) 7)):={}
theorem ok_Plane_is_coming (D:DfM K (C 0) "is_coming" "Plane.is_coming" (zO (top 65) 7) ["self","pair"]) (T:Tx K mg C):FnM P w K mg base 1 (C 0) "is_coming" ["self","pair"] (ZC K (C 0)):=by
 refine D.ok0 sc_Plane_is_coming (λvs H Q E h=>?_) (λf cdv A outer s H vs Q E hr h=>?_)
 ·obtain ⟨p,pb,R,gs,dx,fs,j,kvs,q,c,co,rfl,_⟩:=h;rfl
 obtain ⟨p,pb,R,gs,dx,fs,j,kvs,q,c,co,rfl,hp,pj,hb,hin,fc,oc,k⟩:=h;refine ⟨_,(zF (zL (yg (ym op_notN (zW T.cl_Plane T.n_Plane_coming (pv 0)) jC (zS _)) (yS (ym (op_eqOB (K:=K) rfl (u100 hr)) (ZZ (YT (u100 hr)) (zW T.cl_Plane T.n_Plane_joints (pv 0)) (pv 1) (λ_ _=>rfl)) (zW T.cl_Plane T.n_Plane_coming (pv 0)) (zS _)))))),?_⟩
 try dsimp only [cxK,cxK0]
 unfold cmgP at k;refine ⟨_,rfl,p,_,_,_,rfl,hp,fc,rfl,_,rfl,?_⟩;rcases id oc with ⟨ec,eo⟩|⟨sq,ps,ec,eo,gs',ds⟩
 ·rw [decide_eq_false (λz=>z ec),Bool.false_and] at k
  rw [eo];exact iteF k
 ·rw [decide_eq_true (show c≠none by rw [ec]; exact λz=>nomatch z),Bool.true_and] at k
  obtain ⟨v,e1,e2⟩:=pj.get (zh.mpr hin);rw [show (!decide (co=V.non))=true by rw [eo]; rfl]
  refine iteT ?_;exact ⟨_,rfl,p,_,_,_,rfl,hp,pj.fj,_,rfl,j,v,rfl,.inr ⟨kvs,keyP q,pb,pj.hj,rfl,hb,e1.symm⟩,_,rfl,p,_,_,_,rfl,hp,fc,_,_,e2,oc,k⟩
noncomputable def jf (K:Frag) (C:Addr):Sp:=λvs H Q _=>∃ (p:Addr) (R:Rat × Rat) (gs:List Bq) (dx:Addr) (fs:List (Str × V)) (wl g:Addr) (xs:List V) (j:Addr) (kvs:List (List Key × V)) (nw:Addr) (now:Rat),vs=[.ref p]/\PlG K H C p R gs dx fs wl g xs/\PlJ K H R gs fs j kvs/\H j=some (.dT kvs)/\wl≠j/\fs.lookup ("now" : Str)=some (.ref nw)/\FQ K H nw now/\FB 2000 now/\fs.length < 900/\gs.length<=6/\∀ (co:V) (du:Addr) (ds:List V) (H1:Hp),But p H H1->H du=none->H1 p=some (.ins C dx (putF ("due" : Str) (.ref du) (putF ("coming" : Str) co fs)))->OptB K H1 co (comP R gs now)->H1 du=some (.lst ds)->Al2 (PrH H1) ds (dueP R gs now)->Q .non H1
theorem ye:FnScope ["self","pair","moment"] ["self"] (zD (zO (top 65) 5)):={}
theorem ok_Plane_look_ahead (D:DfM K (C 0) "look_ahead" "Plane.look_ahead" (zO (top 65) 5) ["self"]) (T:Tx K mg C) (bc:FnM P w K mg base 2 (C 0) "is_sooner" ["self","moment"] (YU K (C 0))) (aQ:FnM P w K mg base 5 (C 0) "meet_at" ["self","pair","moment"] (JX K (C 0))) (aj:FnM P w K mg base 1 (C 0) "close_at_a_corner" ["self","pair"] (yN K (C 0))) (av:FnM P w K mg base 1 (C 0) "is_coming" ["self","pair"] (ZC K (C 0))):FnM P w K mg base 6 (C 0) "look_ahead" ["self"] (jf K (C 0)):=by
 refine D.ok0 ye (λvs H Q E h=>?_) (λf cdv A outer s H vs Q E hr h=>?_)
 ·obtain ⟨p,R,gs,dx,fs,wl,g,xs,j,kvs,nw,now,rfl,_⟩:=h;rfl
 obtain ⟨p,R,gs,dx,fs,wl,g,xs,j,kvs,nw,now,rfl,pg,pj,hj,njw,fn,gn,dn,fl,l6,k⟩:=h
 refine ⟨_,(zE (jU T.cl_Plane T.n_Plane_coming (pv 0) jC)
   (zE (ps_thaw (yH PassesOwn.never rfl (Jk (zW T.cl_Plane T.n_Plane_joints (pv 0))) (zV (i:=1) ye.nd rfl (Or.inl rfl)) (zE (zM (i:=2) ye.nd rfl (Or.inl rfl) (ZZ (YT (u100 hr)) (zW T.cl_Plane T.n_Plane_joints (pv 0)) (pv 1) (λ_ _=>rfl)))
   (zF (zf (Z7 (zn (yb T.cl_Plane bc (by decide) hr zG (pv 0) (zA (pv 2) zB)) (λ_=>rfl)) (jx (jz (zn (yb T.cl_Plane aQ (by decide) hr zG (pv 0) (zA (pv 1) (zA (pv 2) zB))) (λ_=>rfl)) (yt (zn (yb T.cl_Plane aj (by decide) hr zG (pv 0) (zA (pv 1) zB)) (λ_=>rfl)))).pt)).pt (zF (jU T.cl_Plane T.n_Plane_coming (pv 0) (pv 2))) zX)))))
   (zF (jU T.cl_Plane T.n_Plane_due (pv 0) (pe_thaw (@pe_lcT _ _ _ _ _ _ _ _ _ _ _ _ ["self"] [0] rfl (Jk (zW T.cl_Plane T.n_Plane_joints (pv 0))) rfl (by decide) rfl (by decide) rfl (by decide) (jA (j:=0) rfl rfl rfl rfl (.inl rfl)) (λy c h=>h) (ja rfl) (λC z Hc fp=>Y8 (Z7 (zn (yb T.cl_Plane av (by decide) hr zG (pv 1) (zA (pv 0) zB)) (λ_=>rfl)) (jx (zn (yb T.cl_Plane aQ (by decide) hr zG (pv 1) (zA (pv 0) (zA (zW T.cl_Plane T.n_Plane_coming (pv 1)) zB))) (λ_=>rfl)))).pt) (λC z Hc fp=>(pv 0)) (λ_=>rfl))))))),?_⟩
 try dsimp only [cxK,cxK0]
 have c1:("coming" : Str)="coming"\/("coming" : Str)="due"\/("coming" : Str)="now"\/("coming" : Str)="gone_through":=.inl rfl;have npj:p≠j:=zy pg.ob hj (by intro z; cases z)
 have npg:p≠g:=zy pg.ob pg.hg (by intro z; cases z)
 have njg:j≠g:=zy hj pg.hg (by intro z; cases z)
 obtain ⟨wkv,hwl⟩:∃ kv,H wl=some (.dT kv):=by
  obtain ⟨_,_,_,_,e,_⟩:=pg.ws;exact ⟨_,e⟩
 have npw:p≠wl:=zy pg.ob hwl (by intro z; cases z)
 have lk:kvs.length<=200:=by
  have z:=congrArg List.length pj.ks;rw [List.length_map,List.length_map] at z;have:=YK l6;omega
 refine ⟨_,rfl,p,dx,fs,rfl,pg.ob,by omega,?_⟩
 obtain ⟨H1,q1,s1,e1⟩:=newB (H:=H) (p:=p) (.ins (C 0) dx (putF ("coming" : Str) V.non fs));dsimp only;rw [q1];clear q1;have E3:=s1 _ _ (Ne.symm npj) hj;refine ⟨_,rfl,p,_,_,_,rfl,e1,(ZV (by decide) fs).trans pj.fj,j,kvs,rfl,E3,λo=>?_⟩
 obtain ⟨H2,q2,s2,e2⟩:=newB (H:=H1) (p:=j) (.frz o (.dT kvs));rw [q2];clear q2;have nt:NoT [p,j] H:=NoT.ins pg.ob (NoT.dct hj NoT.nil);have b2:Buts [p,j] H H2:=(Buts.one s1 (by simp)).trans (Buts.one s2 (by simp))
 have nwa:wl∉[p,j]:=by simp [Ne.symm npw,njw]
 have nga:g∉[p,j]:=by simp [Ne.symm npg,Ne.symm njg]
 have oW:∀ {H3:Hp} {cv:V},Buts [p] H2 H3->H3 p=some (.ins (C 0) dx (putF ("coming" : Str) cv fs))->PlG K H3 (C 0) p R gs dx (putF ("coming" : Str) cv fs) wl g xs/\PlJ K H3 R gs (putF ("coming" : Str) cv fs) j kvs/\FQ K H3 nw now/\H3 j=some (.frz o (.dT kvs)):=λ{H3 cv} s3 e3=>by
  have b3:Buts [p,j] H H3:=b2.trans (s3.mono (by simp))
  have j3:=s3 _ _ (by simp [Ne.symm npj]) e2
  exact ⟨pg.put c1 b3 nt nwa nga e3,pj.put c1 b3 nt (.inr ⟨o,j3⟩),b3.tup nt gn,j3⟩
 refine for_dict (λi σ' H'=>∃ (u1 u2:Option V) (cv:V),σ'=[some (.ref p),u1,u2]/\Buts [p] H2 H'/\H' p=some (.ins (C 0) dx (putF ("coming" : Str) cv fs))/\OptB K H' cv (((prsP gs.length).take i).foldl (yc R gs now) none)) ⟨_,_,.non,rfl,Buts.refl,s2 _ _ npj e1,.inl ⟨rfl,rfl⟩⟩ (by rintro _ _ _ _ ⟨_,_,_,_,g',h',_⟩; exact (oW g' h').2.2.2) ?_ ?_
 ·rintro i kv b σ' H3 hk hb ⟨u1,u2,cv,rfl,s3,e3,oc⟩;obtain ⟨q,hq,ek⟩:=JP pj.ks hk;rw [ek] at hb;have hin:=zh.mp (List.mem_of_getElem? hq);obtain ⟨cR,eF,gn3,gq⟩:=oW s3 e3;obtain ⟨v,ev,ov⟩:=eF.get (zh.mpr hin);have E4:PlC K H3 now (((prsP gs.length).take i).foldl (yc R gs now) none) (putF ("coming" : Str) cv fs) nw cv:=⟨(ZV (by decide) fs).trans fn,gn3,dn,look_eq fs,oc⟩
  generalize hc:((prsP gs.length).take i).foldl (yc R gs now) none=cc at oc E4;have stp:((prsP gs.length).take (i+1)).foldl (yc R gs now) none=yc R gs now cc q:=by rw [zU hq,List.foldl_append,hc]; rfl
  rw [stp];refine ⟨_,rfl,p,_,_,_,rfl,e3,eF.fj,_,rfl,j,v,rfl,.inr ⟨kvs,keyP q,b,eF.hj,rfl,hb,ev.symm⟩,?_⟩;refine ⟨_,rfl,p,_,_,rfl,e3,cR.nm.is_sooner,_,rfl,p,dx,v,now,cc,jntP R gs q,_,nw,cv,rfl,e3,E4,ov,λH4 s4=>⟨_,rfl,?_⟩⟩
  have stay:∀ {H5:Hp},Same H3 H5->yc R gs now cc q=cc->∃ (u1 u2:Option V) (cv:V),[some (V.ref p),some (.ref b),some v]=[some (.ref p),u1,u2]/\Buts [p] H2 H5/\H5 p=some (.ins (C 0) dx (putF ("coming" : Str) cv fs))/\OptB K H5 cv (yc R gs now cc q):=λ{H5} s5 e=>⟨_,_,cv,rfl,s3.trans (Buts.of s5),s5 _ _ e3,by rw [e]; exact oc.same s5⟩
  cases hs:Zj now cc (jntP R gs q) with
  |false=>
   refine iteF ?_;refine iteF ?_;exact stay s4 (by unfold yc; rw [hs]; rfl)
  |true=>
   refine iteT ?_;rcases ov with ⟨en,_⟩|⟨t,pt,et,rfl,gt,dt⟩
   ·rw [en] at hs;cases hs
   refine ⟨_,rfl,p,_,_,rfl,s4 _ _ e3,cR.nm.meet_at,_,rfl,_,rfl,p,b,pt,R,gs,dx,_,wl,g,xs,q,t,rfl,cR.same s4,s4 _ _ hb,hin,Kw.Same.tup s4 gt,dt,λH5 s5=>⟨_,rfl,?_⟩⟩
   have dR:=s4.trans s5;have gd:((jntP R gs q).getD 0)=t:=by rw [et]; rfl
   cases hm:metP R gs t q with
   |true=>
    refine iteT ?_;refine iteT ?_;refine ⟨_,rfl,_,rfl,p,dx,_,rfl,(s4.trans s5 _ _ e3),by have:=Jl (f:=("coming" : Str)) (v:=cv) fs; omega,?_⟩
    obtain ⟨H7,q7,s7,e7⟩:=newB (H:=H5) (p:=p) (.ins (C 0) dx (putF ("coming" : Str) (V.ref pt) (putF ("coming" : Str) cv fs)));dsimp only;rw [q7];clear q7;rw [put_put] at e7;refine ⟨_,_,.ref pt,rfl,s3.trans ((Buts.of (s4.trans s5)).trans (Buts.one s7 (List.mem_singleton.mpr rfl))),e7,?_⟩;rw [show yc R gs now cc q=jntP R gs q by unfold yc; rw [hs,gd,hm]; rfl,et]
    exact .inr ⟨t,pt,rfl,rfl,(Buts.one s7 (List.mem_singleton.mpr rfl):Buts [p] _ _).tup (NoT.ins (s4.trans s5 _ _ e3) NoT.nil) (Kw.Same.tup (s4.trans s5) gt),dt⟩
   |false=>
    refine iteF ?_;refine ⟨_,rfl,p,_,_,rfl,dR _ _ e3,cR.nm.close_at_a_corner,_,rfl,p,b,R,gs,dx,_,j,kvs,q,rfl,dR _ _ e3,eF.same dR,dR _ _ hb,hin,λH6 s6=>⟨_,rfl,?_⟩⟩
    cases hcr:corP R gs q with
    |true=>
     refine iteT ?_;refine ⟨_,rfl,_,rfl,p,dx,_,rfl,(dR.trans s6 _ _ e3),by have:=Jl (f:=("coming" : Str)) (v:=cv) fs; omega,?_⟩
     obtain ⟨H7,q7,s7,e7⟩:=newB (H:=H6) (p:=p) (.ins (C 0) dx (putF ("coming" : Str) (V.ref pt) (putF ("coming" : Str) cv fs)));dsimp only;rw [q7];clear q7;rw [put_put] at e7;refine ⟨_,_,.ref pt,rfl,s3.trans ((Buts.of (dR.trans s6)).trans (Buts.one s7 (List.mem_singleton.mpr rfl))),e7,?_⟩;rw [show yc R gs now cc q=jntP R gs q by unfold yc; rw [hs,gd,hm,hcr]; rfl,et]
     exact .inr ⟨t,pt,rfl,rfl,(Buts.one s7 (List.mem_singleton.mpr rfl):Buts [p] _ _).tup (NoT.ins (dR.trans s6 _ _ e3) NoT.nil) (Kw.Same.tup (dR.trans s6) gt),dt⟩
    |false=>
     refine iteF ?_;exact stay (dR.trans s6) (by unfold yc; rw [hs,gd,hm,hcr]; rfl)
 ·rintro σ' H3 ⟨u1,u2,cv,rfl,s3,e3,oc⟩;obtain ⟨cR,eF,gn3,gq⟩:=oW s3 e3;have lkp:kvs.length=(prsP gs.length).length:=by
   have z:=congrArg List.length pj.ks;rwa [List.length_map,List.length_map] at z
  rw [lkp,List.take_length] at oc
  change OptB K H3 cv (comP R gs now) at oc
  refine ⟨j,o,kvs,E3,gq,?_⟩;obtain ⟨H4,q4,s4,e4⟩:=newB (H:=H3) (p:=j) (.dT kvs);rw [q4];clear q4;have p4:=s4 _ _ npj e3;have b4:Buts [p,j] H H4:=(b2.trans (s3.mono (by simp))).trans (Buts.one s4 (by simp))
  refine ⟨_,rfl,p,_,_,_,rfl,p4,eF.fj,j,kvs,rfl,e4,λo'=>?_⟩
  obtain ⟨H5,q5,s5,e5⟩:=newB (H:=H4) (p:=j) (.frz o' (.dT kvs));rw [q5];clear q5;have p5:=s5 _ _ npj p4;have b5:Buts [p,j] H H5:=b4.trans (Buts.one s5 (by simp))
  have ia:=pg.put c1 b5 nt nwa nga p5;have m6:PlJ K H5 R gs (putF ("coming" : Str) cv fs) j kvs:=pj.put c1 b5 nt (.inr ⟨o',e5⟩);have gu:OptB K H5 cv (comP R gs now):=oc.buts ((Buts.one s4 (by simp)).trans (Buts.one s5 (by simp)):Buts [j] H3 H5) (NoT.frz gq NoT.nil)
  have fc:=look_eq (f:=("coming" : Str)) (v:=cv) fs;refine lc_dictF (ps:=prsP gs.length) (λq=>cmgP R gs (comP R gs now) q && metP R gs ((comP R gs now).getD 0) q) pj.ks e5 (Nat.le_trans lk (by decide)) ?_ ?_ ?_
  ·intro q b H6 hq s6 hb Q' hQ;have hin:=zh.mp hq;refine ⟨_,rfl,p,_,_,rfl,s6 _ _ p5,ia.nm.is_coming,_,rfl,p,b,R,gs,dx,_,j,kvs,q,_,cv,rfl,s6 _ _ p5,m6.same s6,hb,hin,fc,gu.same s6,_,rfl,?_⟩;cases hc:cmgP R gs (comP R gs now) q with
   |false=>
    refine iteF ?_;have z:=hQ H6 (Same.refl _);rw [hc,Bool.false_and] at z;exact z
   |true=>
    refine iteT ?_;rcases gu.same s6 with ⟨en,_⟩|⟨t,pt,et,ecv,gt,dt⟩
    ·unfold cmgP at hc;rw [en] at hc;cases hc
    refine ⟨_,rfl,p,_,_,rfl,s6 _ _ p5,ia.nm.meet_at,_,rfl,_,rfl,p,_,_,_,rfl,s6 _ _ p5,fc,p,b,pt,R,gs,dx,_,wl,g,xs,q,t,by rw [ecv]; rfl,ia.same s6,hb,hin,gt,dt,λH7 s7=>⟨_,rfl,?_⟩⟩
    have z:=hQ H7 s7;rw [hc,Bool.true_and,et] at z;exact z
  ·intro b H6 Q' hQ;exact ⟨_,rfl,hQ⟩
  ·intro H6 ds s6 al q hq;obtain ⟨H7,q7,s7,e7⟩:=newO hq (.lst ds);rw [q7];clear q7;have oX:=s6.trans s7;have j7:=oX _ _ e5;refine ⟨j,o',kvs,e4,j7,?_⟩;obtain ⟨H8,q8,s8,e8⟩:=newB (H:=H7) (p:=j) (.dT kvs);rw [q8];clear q8;have p7:=oX _ _ p5;have p8:=s8 _ _ npj p7;refine ⟨_,rfl,p,dx,_,rfl,p8,by have:=Jl (f:=("coming" : Str)) (v:=cv) fs; omega,?_⟩
   obtain ⟨H9,q9,s9,e9⟩:=newB (H:=H8) (p:=p) (.ins (C 0) dx (putF ("due" : Str) (V.ref q) (putF ("coming" : Str) cv fs)));dsimp only;rw [q9];clear q9;have nq:H q=none:=by
    cases z:H q with
    |none=>rfl
    |some u=>
     by_cases e:q=p
     ·subst e;rw [(s6 _ _ p5)] at hq;cases hq
     ·by_cases e':q=j
      ·subst e';rw [s6 _ _ e5] at hq;cases hq
      ·have y:=s6 _ _ (b5 q u (by simp [e,e']) z)
       rw [hq] at y;cases y
   have nqp:q≠p:=λz=>by subst z; rw [pg.ob] at nq; cases nq
   have nqj:q≠j:=λz=>by subst z; rw [hj] at nq; cases nq
   have E5:Buts [p,j] H5 H9:=(Buts.of oX).trans ((Buts.one s8 (by simp)).trans (Buts.one s9 (by simp)))
   have m7:NoT [p,j] H5:=NoT.ins p5 (NoT.frz e5 NoT.nil);have m9:NoT [p,j] H7:=NoT.ins p7 (NoT.frz j7 NoT.nil);have iF:Buts [p,j] H7 H9:=(Buts.one s8 (by simp)).trans (Buts.one s9 (by simp))
   refine k cv q ds H9 (λa u na ha=>?_) nq e9 (gu.buts E5 m7) (iF _ _ (by simp [nqp,nqj]) e7) (y3 (z8 al s7) iF m9)
   by_cases e':a=j
   ·subst e';rw [hj] at ha;cases ha
    exact s9 _ _ na e8
   ·exact E5 _ _ (by simp [na,e']) (b5 a u (by simp [na,e']) ha)
noncomputable def ZA (K:Frag) (C:Addr):Sp:=λvs H Q _=>∃ (p u dx g:Addr) (fs:List (Str × V)) (xs:List V) (gs:List Bq) (t:Rat),vs=[.ref p,.ref u]/\H p=some (.ins C dx fs)/\fs.lookup ("goings" : Str)=some (.ref g)/\H g=some (.lst xs)/\Al2 (BqH K 1990 H) xs gs/\gs.length<=6/\FQ K H u t/\FB 2000 t/\∀ (r:Addr) (zs:List V) (H1:Hp),Same H H1->H r=none->H1 r=some (.lst zs)->Al2 (BqH K 5990 H1) zs (gs.map (atB t))->Q (.ref r) H1
theorem sc_Plane_bodies_at:FnScope ["self","moment"] ["self","moment"] (zD (zO (top 65) 4)):={}
theorem ok_Plane_bodies_at (D:DfM K (C 0) "bodies_at" "Plane.bodies_at" (zO (top 65) 4) ["self","moment"]) (T:Tx K mg C) (bb:Fn P w K mg base 4 "box_at" ["box","moment"] (JH K)):FnM P w K mg base 5 (C 0) "bodies_at" ["self","moment"] (ZA K (C 0)):=by
 refine D.ok0 sc_Plane_bodies_at (λvs H Q E h=>?_) (λf cdv A outer s H vs Q E hr h=>?_)
 ·obtain ⟨p,u,dx,g,fs,xs,gs,t,rfl,_⟩:=h;rfl
 obtain ⟨p,u,dx,g,fs,xs,gs,t,rfl,hp,fg,hg,al,l6,gt,dt,k⟩:=h;refine ⟨_,(zF (zL (@Zh _ _ _ _ _ _ _ _ _ _ ["moment"] [1] rfl (zo (zW T.cl_Plane T.n_Plane_goings (pv 0))) rfl (by decide) rfl (by decide) rfl (by decide) (jA (j:=1) rfl rfl rfl rfl (.inl rfl)) (λy c h=>h) (ja rfl) (λC z Hc fp=>(zI bb (by decide) hr (by rfl) zG (zA (pv 0) (zA (pv 1) zB)))) (λ_=>rfl)))),?_⟩
 try dsimp only [cxK,cxK0]
 have hz:=Al2.len al;refine ⟨_,rfl,p,_,_,_,rfl,hp,fg,g,rfl,⟨_,SqL.of hg⟩,jJ (K:=K) (xs:=xs) (λi zs H'=>i<=xs.length/\Same H H'/\Al2 (BqH K 5990 H') zs ((gs.take i).map (atB t))) ⟨Nat.zero_le _,Same.refl _,trivial⟩ (by rw [hz]; exact Nat.le_trans l6 (by decide)) (λi zs H1 z=>by obtain ⟨l,_,e⟩:=z; have:=Al2.len e; simp at this; omega) (λi zs H1 z=>by obtain ⟨_,g,_⟩:=z; exact SqL.of (g _ _ hg)) ?_ ?_⟩
 ·rintro i x zs H1 Q1 hx ⟨hl,s1,hy⟩ kq;have hi:i < xs.length:=(List.getElem?_eq_some_iff.mp hx).1;obtain ⟨b,hb,hxb⟩:=Al2.get (zT al s1) hx;refine ⟨_,rfl,_,rfl,x,b,u,t,rfl,hxb,Kw.Same.tup s1 gt,dt,λr2 H2 s2 one=>?_⟩
  refine kq _ _ ⟨hi,s1.trans s2,?_⟩;rw [zU hb,List.map_append];exact Al2.snoc (zT hy s2) one
 ·rintro zs H1 ⟨_,s1,hy⟩ pl hpl;rw [hz,List.take_length] at hy;obtain ⟨H2,q2,s2,e2⟩:=newO hpl (.lst zs);rw [q2];clear q2;exact k pl zs H2 (s1.trans s2) (jG s1 hpl) e2 (zT hy s2)
noncomputable def wdP (d:Nat):V:=strV (if d=0 then "across" else "along")
noncomputable def MtP (K:Frag) (H:Hp) (v:V) (m:Rat × Pr):Prop:=∃ r a:Addr,v=.ref r/\SqT K H r [.ref a,wdP m.2.1,.int m.2.2.1,.int m.2.2.2]/\FQ K H a m.1/\FB 2000 m.1
theorem MtP.same {K:Frag} {H H':Hp} {v:V} {m:Rat × Pr} (h:MtP K H v m) (s:Same H H'):MtP K H' v m:=by
 obtain ⟨r,a,e,h1,h2,h3⟩:=h;exact ⟨r,a,e,Kw.Same.tup s h1,Kw.Same.tup s h2,h3⟩
theorem zp {K:Frag} {H H':Hp} {vs:List V} {ms:List (Rat × Pr)} (h:Al2 (MtP K H) vs ms) (s:Same H H'):Al2 (MtP K H') vs ms:=Al2.imp (λ_ _ z=>z.same s) h
theorem MtP.buts {K:Frag} {H H':Hp} {v:V} {m:Rat × Pr} {as:List Addr} (h:MtP K H v m) (s:Buts as H H') (n:NoT as H):MtP K H' v m:=by
 obtain ⟨r,a,e,h1,h2,h3⟩:=h;exact ⟨r,a,e,s.tup n h1,s.tup n h2,h3⟩
theorem mtp_buts {K:Frag} {H H':Hp} {vs:List V} {ms:List (Rat × Pr)} {as:List Addr} (h:Al2 (MtP K H) vs ms) (s:Buts as H H') (n:NoT as H):Al2 (MtP K H') vs ms:=Al2.imp (λ_ _ z=>z.buts s n) h
noncomputable def Ys (K:Frag) (C:Addr):Sp:=λvs H Q _=>∃ (p dx:Addr) (fs:List (Str × V)) (du:Addr) (ds:List V) (ps:List Pr) (t:Rat) (pc:Addr),vs=[.ref p]/\H p=some (.ins C dx fs)/\fs.lookup ("due" : Str)=some (.ref du)/\H du=some (.lst ds)/\Al2 (PrH H) ds ps/\ps.length<=200/\(∀ q∈ps,q.1<=1)/\fs.lookup ("coming" : Str)=some (.ref pc)/\FQ K H pc t/\FB 2000 t/\∀ (r:Addr) (zs:List V) (H1:Hp),Same H H1->H r=none->H1 r=some (.lst zs)->Al2 (MtP K H1) zs (ps.map λq=>(t,q))->Q (.ref r) H1
theorem sc_Plane_meetings:FnScope ["self"] ["self"] (zD (zO (top 65) 10)):={}
theorem ok_Plane_meetings (D:DfM K (C 0) "meetings" "Plane.meetings" (zO (top 65) 10) ["self"]) (T:Tx K mg C):FnM P w K mg base 1 (C 0) "meetings" ["self"] (Ys K (C 0)):=by
 refine D.ok0 sc_Plane_meetings (λvs H Q E h=>?_) (λf cdv A outer s H vs Q E hr h=>?_)
 ·obtain ⟨p,dx,fs,du,ds,ps,t,pc,rfl,_⟩:=h;rfl
 obtain ⟨p,dx,fs,du,ds,ps,t,pc,rfl,hp,fd,hd,al,l2,w1,fc,gt,dt,k⟩:=h;refine ⟨_,(zF (zL (@Zh _ _ _ _ _ _ _ _ _ _ ["self"] [0] rfl (zo (zW T.cl_Plane T.n_Plane_due (pv 0))) rfl (by decide) rfl (by decide) rfl (by decide) (jA (j:=0) rfl rfl rfl rfl (.inl rfl)) (λy c h=>h) (ja rfl) (λC z Hc fp=>(zQ (zA (zW T.cl_Plane T.n_Plane_coming (pv 1)) (zA (zH (ixT (K:=K) rfl) (pe_globS3 (K:=K) rfl (by rfl) T.k_WORDS) (zH (ixT (K:=K) rfl) (pv 0) zC (λ_ _=>rfl)) (λ_ _=>rfl)) (zA (zH (ixT (K:=K) rfl) (pv 0) zC (λ_ _=>rfl)) (zA (zH (ixT (K:=K) rfl) (pv 0) zC (λ_ _=>rfl)) zB)))))) (λ_=>rfl)))),?_⟩
 try dsimp only [cxK,cxK0]
 have hz:=Al2.len al;refine ⟨_,rfl,p,_,_,_,rfl,hp,fd,du,rfl,⟨_,SqL.of hd⟩,jJ (K:=K) (xs:=ds) (λi zs H'=>i<=ds.length/\Same H H'/\Al2 (MtP K H') zs ((ps.take i).map λq=>(t,q))) ⟨Nat.zero_le _,Same.refl _,trivial⟩ (by rw [hz]; exact Nat.le_trans l2 (by decide)) (λi zs H1 z=>by obtain ⟨l,_,e⟩:=z; have:=Al2.len e; simp at this; omega) (λi zs H1 z=>by obtain ⟨_,g,_⟩:=z; exact SqL.of (g _ _ hd)) ?_ ?_⟩
 ·rintro i x zs H1 Q1 hx ⟨hl,s1,hy⟩ kq;have hi:i < ds.length:=(List.getElem?_eq_some_iff.mp hx).1;obtain ⟨q,hq,b,rfl,hb⟩:=Al2.get (z8 al s1) hx;have hqt:SqT K H1 b [.int (q.1:Int),.int q.2.1,.int q.2.2]:=SqT.of hb;have Hu:=w1 q (List.mem_of_getElem? hq);refine ⟨_,rfl,p,_,_,_,rfl,s1 _ _ hp,fc,λN hN=>?_⟩
  have hN':SqT K H1 N [strV "across",strV "along"]:=hN H1;have at':atI [strV "across",strV "along"] (q.1:Int)=some (wdP q.1):=by
   rcases d01 Hu with e|e
   ·rw [e];rfl
   ·rw [e];rfl
  refine ⟨_,rfl,b,_,_,_,rfl,rfl,hqt,rfl,N,_,_,_,rfl,rfl,hN',at',_,rfl,b,_,_,_,rfl,rfl,hqt,rfl,_,rfl,b,_,_,_,rfl,rfl,hqt,rfl,by show 4<=sizeLine; decide,?_⟩
  intro p2 n2;obtain ⟨H2,q2,s2,e2⟩:=newO n2 (.tup [.ref pc,wdP q.1,.int q.2.1,.int q.2.2]);rw [q2];clear q2;refine kq _ _ ⟨hi,s1.trans s2,?_⟩;rw [zU hq,List.map_append];exact Al2.snoc (zp hy s2) ⟨p2,pc,rfl,SqT.of e2,Kw.Same.tup (s1.trans s2) gt,dt⟩
 ·rintro zs H1 ⟨_,s1,hy⟩ pl hpl;rw [hz,List.take_length] at hy;obtain ⟨H2,q2,s2,e2⟩:=newO hpl (.lst zs);rw [q2];clear q2;exact k pl zs H2 (s1.trans s2) (jG s1 hpl) e2 (zp hy s2)
noncomputable def yC (l:List Int):List V:=l.map V.int
noncomputable def ZB (K:Frag) (C:Addr):Sp:=λvs H Q _=>∃ (p dx:Addr) (fs:List (Str × V)) (du:Addr) (ds:List V) (ps:List Pr),vs=[.ref p]/\H p=some (.ins C dx fs)/\fs.lookup ("due" : Str)=some (.ref du)/\H du=some (.lst ds)/\Al2 (PrH H) ds ps/\ps.length<=200/\∀ (r:Addr) (H1:Hp),Same H H1->H1 r=some (.lst (yC (numP ps)))->Q (.ref r) H1
theorem jk:FnScope ["self","numbers"] ["self"] (zD (zO (top 65) 11)):={}
theorem ok_Plane_boxes_met (D:DfM K (C 0) "boxes_met" "Plane.boxes_met" (zO (top 65) 11) ["self"]) (T:Tx K mg C):FnM P w K mg base 1 (C 0) "boxes_met" ["self"] (ZB K (C 0)):=by
 refine D.ok0 jk (λvs H Q E h=>?_) (λf cdv A outer s H vs Q E hr h=>?_)
 ·obtain ⟨p,dx,fs,du,ds,ps,rfl,_⟩:=h;rfl
 obtain ⟨p,dx,fs,du,ds,ps,rfl,hp,fd,hd,al,l2,k⟩:=h
 refine ⟨_,(zE (zM (i:=1) jk.nd rfl (Or.inl rfl) (zP op_cat (@Zh _ _ _ _ _ _ _ _ _ _ [] [] rfl (zo (zW T.cl_Plane T.n_Plane_due (pv 0))) rfl (by decide) rfl (by decide) rfl (by decide) yx (λ_ _ h=>nomatch h) (jV rfl) (λC z Hc fp=>(zH (ixT (K:=K) rfl) (pv 0) zC (λ_ _=>rfl))) (λ_=>rfl)) (@Zh _ _ _ _ _ _ _ _ _ _ [] [] rfl (zo (zW T.cl_Plane T.n_Plane_due (pv 0))) rfl (by decide) rfl (by decide) rfl (by decide) yx (λ_ _ h=>nomatch h) (jV rfl) (λC z Hc fp=>(zH (ixT (K:=K) rfl) (pv 0) zC (λ_ _=>rfl))) (λ_=>rfl))))
   (zF (zL (@pe_lcT _ _ _ _ _ _ _ _ _ _ _ _ [] [] rfl (zo (pv 1)) rfl (by decide) rfl (by decide) rfl (by decide) yx (λ_ _ h=>nomatch h) (jV rfl) (λC z Hc fp=>Y8 (zR Y7 (pv 0) zC (zS _))) (λC z Hc fp=>(pv 0)) (λ_=>rfl))))),?_⟩
 try dsimp only [cxK,cxK0]
 have hz:=Al2.len al;refine ⟨_,rfl,p,_,_,_,rfl,hp,fd,du,rfl,⟨_,SqL.of hd⟩,jJ (K:=K) (xs:=ds) (λi zs H'=>i<=ds.length/\Same H H'/\zs=yC ((ps.take i).map (·.2.1))) ⟨Nat.zero_le _,Same.refl _,rfl⟩ (by rw [hz]; exact Nat.le_trans l2 (by decide)) (λi zs H1 z=>by obtain ⟨l,_,e⟩:=z; rw [e]; simp [yC]; omega) (λi zs H1 z=>by obtain ⟨_,g,_⟩:=z; exact SqL.of (g _ _ hd)) ?_ ?_⟩
 ·rintro i x zs H1 Q1 hx ⟨hl,s1,rfl⟩ kq;have hi:i < ds.length:=(List.getElem?_eq_some_iff.mp hx).1;obtain ⟨q,hq,b,rfl,hb⟩:=Al2.get (z8 al s1) hx;have hqt:SqT K H1 b [.int (q.1:Int),.int q.2.1,.int q.2.2]:=SqT.of hb;refine ⟨_,rfl,b,_,_,_,rfl,rfl,hqt,rfl,?_⟩;refine kq _ _ ⟨hi,s1,?_⟩;rw [zU hq];simp [yC]
 rintro zs H1 ⟨_,s1,rfl⟩ r1 dO;rw [hz,List.take_length];obtain ⟨H2,q2,s2,e2⟩:=newO dO (.lst (yC (ps.map (·.2.1))));rw [q2];clear q2;have ao:=s1.trans s2;refine ⟨_,rfl,p,_,_,_,rfl,ao _ _ hp,fd,du,rfl,⟨_,SqL.of (ao _ _ hd)⟩,jJ (K:=K) (xs:=ds) (λi zs H'=>i<=ds.length/\Same H2 H'/\zs=yC ((ps.take i).map (·.2.2))) ⟨Nat.zero_le _,Same.refl _,rfl⟩ (by rw [hz]; exact Nat.le_trans l2 (by decide)) (λi zs H1 z=>by obtain ⟨l,_,e⟩:=z; rw [e]; simp [yC]; omega) (λi zs H1 z=>by obtain ⟨_,g,_⟩:=z; exact SqL.of (g _ _ (ao _ _ hd))) ?_ ?_⟩
 ·rintro i x zs H3 Q1 hx ⟨hl,s3,rfl⟩ kq;have hi:i < ds.length:=(List.getElem?_eq_some_iff.mp hx).1;obtain ⟨q,hq,b,rfl,hb⟩:=Al2.get (z8 al (ao.trans s3)) hx;have hqt:SqT K H3 b [.int (q.1:Int),.int q.2.1,.int q.2.2]:=SqT.of hb;refine ⟨_,rfl,b,_,_,_,rfl,rfl,hqt,rfl,?_⟩;refine kq _ _ ⟨hi,s3,?_⟩;rw [zU hq];simp [yC]
 rintro zs H3 ⟨_,s3,rfl⟩ r3 fW;rw [hz,List.take_length];obtain ⟨H4,q4,s4,e4⟩:=newO fW (.lst (yC (ps.map (·.2.2))));rw [q4];clear q4;have l4:(yC (ps.map (·.2.1))).length+(yC (ps.map (·.2.2))).length<=400:=by simp [yC]; omega
 refine ⟨r1,r3,_,_,rfl,rfl,(s3.trans s4) _ _ e2,e4,Nat.le_trans l4 (by decide),?_⟩
 intro p5 n5;obtain ⟨H5,q5,s5,e5⟩:=newO n5 (.lst (yC (ps.map (·.2.1))++yC (ps.map (·.2.2))));rw [q5];clear q5;have nc:H5 p5=some (.lst (yC (ps.map (·.2.1)++ps.map (·.2.2)))):=by rw [e5]; simp [yC]
 have ej:=ao.trans (s3.trans (s4.trans s5));refine ⟨_,rfl,p5,rfl,⟨_,SqL.of nc⟩,lc_filter (K:=K) (λv=>match v with|.int i=>decide (0<=i)|_=>false) (SqL.of nc) (Nat.le_trans (show (yC (ps.map (·.2.1)++ps.map (·.2.2))).length<=400 by simp [yC]; omega) (by decide)) ?_ ?_ ?_⟩
 ·intro x hx Q1 q1;obtain ⟨i,_,rfl⟩:=List.mem_map.mp hx;exact ⟨_,rfl,_,_,rfl,rfl,_,rfl,q1⟩
 ·intro x hx Q1 q1;exact ⟨_,rfl,q1⟩
 ·intro l hln;have ef:((yC (ps.map (·.2.1)++ps.map (·.2.2))).filter λv=>match v with|.int i=>decide (0<=i)|_=>false)=yC (numP ps):=by
   unfold yC numP;rw [List.filter_map];rfl
  rw [ef];obtain ⟨H6,q6,s6,e6⟩:=newO hln (.lst (yC (numP ps)));rw [q6];clear q6;exact k l H6 (ej.trans s6) e6
noncomputable def jM (K:Frag) (C:Addr):Sp:=λvs H Q _=>∃ (p dx:Addr) (fs:List (Str × V)) (du:Addr) (ds:List V) (ps:List Pr),vs=[.ref p]/\H p=some (.ins C dx fs)/\fs.lookup ("due" : Str)=some (.ref du)/\H du=some (.lst ds)/\Al2 (PrH H) ds ps/\ps.length<=200/\fs.lookup ("boxes_met" : Str)=none/\∀ (H1:Hp),Same H H1->Q (.bl (twoP ps)) H1
theorem yd:FnScope ["self","numbers"] ["self"] (zD (zO (top 65) 13)):={}
theorem ok_Plane_has_two_meetings (D:DfM K (C 0) "has_two_meetings" "Plane.has_two_meetings" (zO (top 65) 13) ["self"]) (T:Tx K mg C) (aw:FnM P w K mg base 1 (C 0) "boxes_met" ["self"] (ZB K (C 0))):FnM P w K mg base 2 (C 0) "has_two_meetings" ["self"] (jM K (C 0)):=by
 refine D.ok0 yd (λvs H Q E h=>?_) (λf cdv A outer s H vs Q E hr h=>?_)
 ·obtain ⟨p,dx,fs,du,ds,ps,rfl,_⟩:=h;rfl
 obtain ⟨p,dx,fs,du,ds,ps,rfl,hp,fd,hd,al,l2,nm,k⟩:=h
 refine ⟨_,(zE (zM (i:=1) yd.nd rfl (Or.inl rfl) (YD T.cl_Plane aw (by decide) hr zG (pv 0)))
   (zF (zL (ym Y6 (zY call_lenS (by rfl) T.b_len PyProof.Rows.Boot.«len» (zA (jZ (call_setI rfl) (by rfl) T.b_set PyProof.Rows.Boot.«set» (zA (pv 1) zB)) zB)) (zY yI (by rfl) T.b_len PyProof.Rows.Boot.«len» (zA (pv 1) zB)) (zS _))))),?_⟩
 try dsimp only [cxK,cxK0]
 refine ⟨_,rfl,p,_,_,rfl,hp,nm,p,dx,fs,du,ds,ps,rfl,hp,fd,hd,al,l2,λr H1 s1 e1=>?_⟩
 have fU:(numP ps).length < 4000:=by
  have z:=List.length_filter_le (λi=>decide ((0:Int)<=i)) (ps.map (·.2.1)++ps.map (·.2.2))
  unfold numP;simp only [List.length_append,List.length_map] at z;omega
 refine ⟨_,rfl,r,numP ps,rfl,SqL.of e1,fU,λl hl=>?_⟩
 obtain ⟨H2,q2,s2,e2⟩:=newO hl (.set (λk=>(dd (numP ps)).any (· == k)) (dd (numP ps)).length)
 rw [q2];clear q2;refine ⟨l,_,_,rfl,e2,_,rfl,_,_,rfl,.inl ⟨_,SqL.of (s2 _ _ e1),rfl⟩,_,_,rfl,rfl,?_⟩;have z:=k H2 (s1.trans s2);have e:twoP ps=decide (((dd (numP ps)).length:Int) < ((yC (numP ps)).length:Int)):=by
  unfold twoP;refine decide_eq_decide.mpr ?_;rw [<- dd_two];simp [yC]
 rw [e] at z;exact z
noncomputable def ZM (K:Frag) (C:Addr):Sp:=λvs H Q _=>∃ (p l:Addr) (R:Rat × Rat) (gs:List Bq) (dx:Addr) (fs:List (Str × V)) (wl g:Addr) (xs:List V) (j:Addr) (kvs:List (List Key × V)) (du:Addr) (ds:List V) (ps:List Pr) (ys:List V) (bs:List Bq),vs=[.ref p,.ref l]/\PlG K H C p R gs dx fs wl g xs/\PlJ K H R gs fs j kvs/\H j=some (.dT kvs)/\wl≠j/\fs.lookup ("due" : Str)=some (.ref du)/\H du=some (.lst ds)/\Al2 (PrH H) ds ps/\ps.length<=200/\gs.length<=6/\H l=some (.lst ys)/\Al2 (BqH K 5990 H) ys bs/\bs.length=gs.length/\∀ (H1:Hp),Same H H1->Q (.bl (hemP R bs ps)) H1
theorem yJ:FnScope ["self","boxes","near","pair"] ["self","boxes"] (zD (zO (top 65) 14)):={}
theorem ok_Plane_is_hemmed_in (D:DfM K (C 0) "is_hemmed_in" "Plane.is_hemmed_in" (zO (top 65) 14) ["self","boxes"]) (T:Tx K mg C) (cH:Fn P w K mg base 5 "are_beside" ["one","other","way"] (YS K)) (ai:FnM P w K mg base 1 (C 0) "one_of" ["self","pair","boxes"] (jb K (C 0))) (ae:FnM P w K mg base 1 (C 0) "other_of" ["self","pair","boxes"] (y4 K (C 0))):FnM P w K mg base 6 (C 0) "is_hemmed_in" ["self","boxes"] (ZM K (C 0)):=by
 refine D.ok0 yJ (λvs H Q E h=>?_) (λf cdv A outer s H vs Q E hr h=>?_)
 ·obtain ⟨p,l,R,gs,dx,fs,wl,g,xs,j,kvs,du,ds,ps,ys,bs,rfl,_⟩:=h;rfl
 obtain ⟨p,l,R,gs,dx,fs,wl,g,xs,j,kvs,du,ds,ps,ys,bs,rfl,pg,pj,hj,njw,fd,hd,al,l2,l6,hl,alb,lb,k⟩:=h
 refine ⟨_,(zE (ps_thaw (yH PassesOwn.never rfl (Jk (zW T.cl_Plane T.n_Plane_joints (pv 0))) (zV (i:=2) yJ.nd rfl (Or.inl rfl)) (zF (zf (zn (zI cH (by decide) hr (by rfl) zG (zA (yb T.cl_Plane ai (by decide) hr zG (pv 0) (zA (pv 2) (zA (pv 1) zB))) (zA (yb T.cl_Plane ae (by decide) hr zG (pv 0) (zA (pv 2) (zA (pv 1) zB))) (zA (zH ix_tup (pv 2) zC (λ_ _=>rfl)) zB)))) (λ_=>rfl)) (zF (yH PassesOwn.never rfl (zo (zW T.cl_Plane T.n_Plane_due (pv 0))) (zV (i:=3) yJ.nd rfl (Or.inl rfl)) (zF (zf (Z7 (zR jh (zH ix_tup (pv 3) zC (λ_ _=>rfl)) (zH ix_tup (pv 2) zC (λ_ _=>rfl)) (zS _)) (jx (jz (zR jh (zH ix_tup (pv 3) zC (λ_ _=>rfl)) (zH ix_tup (pv 2) zC (λ_ _=>rfl)) (zS _)) (yt (zR jh (zH ix_tup (pv 3) zC (λ_ _=>rfl)) (zH ix_tup (pv 2) zC (λ_ _=>rfl)) (zS _)))).pt)).pt (zF (zL jL)) zX)))) zX))))
   (zF (zL jL))),?_⟩
 try dsimp only [cxK,cxK0]
 refine ⟨_,rfl,p,_,_,_,rfl,pg.ob,pj.fj,j,kvs,rfl,hj,λo=>?_⟩
 obtain ⟨H2,q2,s2,e2⟩:=newB (H:=H) (p:=j) (.frz o (.dT kvs));rw [q2];clear q2;have npj:p≠j:=zy pg.ob hj (by intro z; cases z)
 have njg:g≠j:=zy pg.hg hj (by intro z; cases z)
 have njd:du≠j:=zy hd hj (by intro z; cases z)
 have njl:l≠j:=zy hl hj (by intro z; cases z)
 have nt:NoT [j] H:=NoT.dct hj NoT.nil;have b2:Buts [j] H H2:=Buts.one s2 (by simp)
 have bX:=pg.buts b2 nt (by simp [npj]) (by simp [njw]) (by simp [njg])
 have iG:=yk alb b2 nt;have fi:=y3 al b2 nt;have mY:=s2 _ _ njl hl;have fQ:=s2 _ _ njd hd;have hzd:=Al2.len al;have lkp:kvs.length=(prsP bs.length).length:=by
  have z:=congrArg List.length pj.ks;rw [List.length_map,List.length_map] at z;rw [lb];exact z
 have out:∀ {H3:Hp} (c:Bool),Same H2 H3->c=hemP R bs ps->Thw H H3 (Q (.bl c)):=λ{H3} c s3 ec=>by
  refine ⟨j,o,kvs,hj,s3 _ _ e2,?_⟩;obtain ⟨H4,q4,s4,e4⟩:=newB (H:=H3) (p:=j) (.dT kvs);rw [q4];clear q4;rw [ec];exact k H4 (thawed (v:=.dT kvs) hj s2 s3 s4 e4)
 refine for_dict (λi σ' H'=>∃ (u1 u2:Option V),σ'=[some (.ref p),some (.ref l),u1,u2]/\Same H2 H'/\((prsP bs.length).take i).any (λn=>besB (boxB R bs n.1 n.2.1) (boxB R bs n.1 n.2.2) n.1 && ps.any λp=>decide (p.1=n.1) && (decide (p.2.1=n.2.2) || decide (p.2.2=n.2.1)))=false) ⟨_,_,rfl,Same.refl _,rfl⟩ (by rintro _ _ _ _ ⟨_,_,_,g',_⟩; exact g' _ _ e2) ?_ ?_
 ·rintro i kv b σ' H3 hk hb ⟨u1,u2,rfl,s3,an⟩;obtain ⟨q,hq,ek⟩:=JP pj.ks hk;rw [ek] at hb;have hin:=zh.mp (List.mem_of_getElem? hq);rw [<- lb] at hq hin;have cR:=bX.same s3;have hqt:SqT K H3 b [.int (q.1:Int),.int q.2.1,.int q.2.2]:=SqT.of hb;refine ⟨_,rfl,p,_,_,rfl,cR.ob,cR.nm.one_of,_,rfl,_,rfl,p,b,l,R,gs,dx,fs,wl,g,xs,q,ys,bs,5990,rfl,cR,hb,s3 _ _ mY,zT iG s3,hin,by decide,λv4 H4 s4 k4=>?_⟩
  have eQ:=s3.trans s4;have cb:=cR.same s4;refine ⟨_,rfl,p,_,_,rfl,cb.ob,cb.nm.other_of,_,rfl,_,rfl,p,b,l,R,gs,dx,fs,wl,g,xs,q,ys,bs,5990,rfl,cb,s4 _ _ hb,eQ _ _ mY,zT iG eQ,hin,by decide,λv5 H5 s5 k5=>?_⟩
  have oY:=s4.trans s5;have oZ:=Kw.Same.tup oY hqt;refine ⟨_,rfl,b,_,_,_,rfl,rfl,oZ,rfl,v4,v5,_,_,q.1,rfl,k4.same s5,k5,hin.1,λH6 s6=>⟨_,rfl,?_⟩⟩
  have eR:=s3.trans (oY.trans s6);have fk:=oY.trans s6;have gv:=Kw.Same.tup fk hqt;cases hc:besB (boxB R bs q.1 q.2.1) (boxB R bs q.1 q.2.2) q.1 with
  |false=>
   refine iteF ?_;exact ⟨_,_,rfl,eR,jN _ hq an (by rw [hc]; rfl)⟩
  |true=>
   refine iteT ?_;refine ⟨_,rfl,p,_,_,_,rfl,eR _ _ bX.ob,fd,du,rfl,⟨_,SqL.of (eR _ _ fQ)⟩,ZO (K:=K) (a:=du) (xs:=ds) (λm σ1 H'=>∃ (u2:Option V),σ1=[some (.ref p),some (.ref l),some (.ref b),u2]/\H'=H6/\(ps.take m).any (λp=>decide (p.1=q.1) && (decide (p.2.1=q.2.2) || decide (p.2.2=q.2.1)))=false) ⟨_,rfl,rfl,rfl⟩ (by rintro _ _ _ _ ⟨_,_,rfl,_⟩; exact SqL.of (eR _ _ fQ)) ?_ ?_⟩
   ·rintro m x σ1 H' hx ⟨u2,rfl,rfl,dI⟩;obtain ⟨r,hr',c,rfl,hcr⟩:=Al2.get (z8 fi eR) hx;have hrt:SqT K H' c [.int (r.1:Int),.int r.2.1,.int r.2.2]:=SqT.of hcr;refine ⟨_,rfl,c,_,_,_,rfl,rfl,hrt,rfl,_,rfl,b,_,_,_,rfl,rfl,gv,rfl,rfl,_,rfl,?_⟩;refine yr (λc1=>?_) (λc1=>?_)
    ·have o3:r.1=q.1:=by omega
     refine ⟨_,rfl,c,_,_,_,rfl,rfl,hrt,rfl,_,rfl,b,_,_,_,rfl,rfl,gv,rfl,rfl,_,rfl,?_⟩;refine yr (λc2=>?_) (λc2=>?_)
     ·refine iteT ?_;refine out true eR ?_;unfold hemP;rw [j6 _ hq (by rw [hc,j6 _ hr' (by rw [decide_eq_true o3,decide_eq_true c2]; rfl)]; rfl)]
     ·refine ⟨_,rfl,c,_,_,_,rfl,rfl,hrt,rfl,_,rfl,b,_,_,_,rfl,rfl,gv,rfl,rfl,_,rfl,?_⟩;refine yr (λc3=>?_) (λc3=>?_)
      ·refine out true eR ?_;unfold hemP;rw [j6 _ hq (by rw [hc,j6 _ hr' (by rw [decide_eq_true o3,decide_eq_false c2,decide_eq_true c3]; rfl)]; rfl)]
      ·exact ⟨_,rfl,rfl,jN _ hr' dI (by rw [decide_eq_true o3,decide_eq_false c2,decide_eq_false c3]; rfl)⟩
    ·refine iteF ?_;exact ⟨_,rfl,rfl,jN _ hr' dI (by rw [decide_eq_false (show ¬ r.1=q.1 by omega)]; rfl)⟩
   ·rintro σ1 H' ⟨u2,rfl,rfl,dI⟩;rw [hzd,List.take_length] at dI;exact ⟨_,_,rfl,eR,jN _ hq an (by rw [hc,dI]; rfl)⟩
 ·rintro σ' H3 ⟨u1,u2,rfl,s3,an⟩;rw [lkp,List.take_length] at an;obtain ⟨j',o',kvs',h1,h2,h3⟩:=out false s3 an.symm;exact ⟨j',o',kvs',h1,h2,h3⟩
noncomputable def ZQ (K:Frag) (C:Addr):Sp:=λvs H Q _=>∃ (p l:Addr) (R:Rat × Rat) (gs:List Bq) (dx:Addr) (fs:List (Str × V)) (wl g:Addr) (xs:List V) (j:Addr) (kvs:List (List Key × V)) (du:Addr) (ds:List V) (ps:List Pr) (ys:List V) (bs:List Bq) (c:Option Rat) (co:V),vs=[.ref p,.ref l]/\PlG K H C p R gs dx fs wl g xs/\PlJ K H R gs fs j kvs/\H j=some (.dT kvs)/\wl≠j/\fs.lookup ("due" : Str)=some (.ref du)/\H du=some (.lst ds)/\Al2 (PrH H) ds ps/\ps.length<=200/\gs.length<=6/\H l=some (.lst ys)/\Al2 (BqH K 5990 H) ys bs/\bs.length=gs.length/\fs.lookup ("coming" : Str)=some co/\OptB K H co c/\∀ (H1:Hp),Same H H1->Q (.bl (cnrP bs ps || cloP R gs c)) H1
theorem z9:FnScope ["self","boxes","numbers","other","one"] ["self","boxes"] (zD (zO (top 65) 15)):={}
theorem ok_Plane_has_a_corner (D:DfM K (C 0) "has_a_corner" "Plane.has_a_corner" (zO (top 65) 15) ["self","boxes"]) (T:Tx K mg C) (aw:FnM P w K mg base 1 (C 0) "boxes_met" ["self"] (ZB K (C 0))) (be:Fn P w K mg base 5 "are_at_a_corner" ["one","other"] (jj K)) (av:FnM P w K mg base 1 (C 0) "is_coming" ["self","pair"] (ZC K (C 0))) (aj:FnM P w K mg base 1 (C 0) "close_at_a_corner" ["self","pair"] (yN K (C 0))):FnM P w K mg base 6 (C 0) "has_a_corner" ["self","boxes"] (ZQ K (C 0)):=by
 refine D.ok0 z9 (λvs H Q E h=>?_) (λf cdv A outer s H vs Q E hr h=>?_)
 ·obtain ⟨p,l,R,gs,dx,fs,wl,g,xs,j,kvs,du,ds,ps,ys,bs,c,co,rfl,_⟩:=h;rfl
 obtain ⟨p,l,R,gs,dx,fs,wl,g,xs,j,kvs,du,ds,ps,ys,bs,c,co,rfl,pg,pj,hj,njw,fd,hd,al,l2,l6,hl,alb,lb,fc,oc,k⟩:=h
 refine ⟨_,(zE (zM (i:=2) z9.nd rfl (Or.inl rfl) (YD T.cl_Plane aw (by decide) hr zG (pv 0)))
   (zE (yH PassesOwn.never rfl (jF (by rfl) T.b_range (zA (zY yI (by rfl) T.b_len PyProof.Rows.Boot.«len» (zA (pv 1) zB)) zB)) (zV (i:=3) z9.nd rfl (Or.inl rfl)) (zF (yH PassesOwn.never rfl (jF (by rfl) T.b_range (zA (pv 3) zB)) (zV (i:=4) z9.nd rfl (Or.inl rfl)) (zF (zf (Z7 (jz (zR YO (pv 4) (pv 2) (by first|rfl|with_unfolding_all rfl)) (yt (zR YO (pv 3) (pv 2) (by first|rfl|with_unfolding_all rfl)))).pt (jx (zn (zI be (by decide) hr (by rfl) zG (zA (zH ix_list (pv 1) (pv 4) (λ_ _=>rfl)) (zA (zH ix_list (pv 1) (pv 3) (λ_ _=>rfl)) zB))) (λ_=>rfl)))).pt (zF (zL jL)) zX)))))
   (zF (zL (zY (call_any (K:=K) rfl rfl) (by rfl) T.b_any PyProof.Rows.Boot.«any» (zA (pe_thaw (@Zh _ _ _ _ _ _ _ _ _ _ ["self"] [0] rfl (Jk (zW T.cl_Plane T.n_Plane_joints (pv 0))) rfl (by decide) rfl (by decide) rfl (by decide) (jA (j:=0) rfl rfl rfl rfl (.inl rfl)) (λy c h=>h) (ja rfl) (λC z Hc fp=>(yg (yb T.cl_Plane av (by decide) hr zG (pv 1) (zA (pv 0) zB)) (yS (yb T.cl_Plane aj (by decide) hr zG (pv 1) (zA (pv 0) zB))))) (λ_=>rfl))) zB)))))),?_⟩
 try dsimp only [cxK,cxK0]
 have hzb:=Al2.len alb;have npj:p≠j:=zy pg.ob hj (by intro z; cases z)
 refine ⟨_,rfl,p,_,_,rfl,pg.ob,pg.nm.boxes_met,p,dx,fs,du,ds,ps,rfl,pg.ob,fd,hd,al,l2,λr H1 s1 e1=>?_⟩
 refine ⟨_,rfl,_,_,rfl,.inl ⟨_,SqL.of (s1 _ _ hl),rfl⟩,_,rfl,by omega,by omega,yX (n:=((ys.length:Nat):Int).toNat) (λi σ1 H'=>∃ (u3 u4:Option V),σ1=[some (.ref p),some (.ref l),some (.ref r),u3,u4]/\Same H1 H'/\((List.range bs.length).take i).any (λo=>(List.range o).any λi=>(decide ((i:Int)∈numP ps) || decide ((o:Int)∈numP ps)) && crnB (bxAt bs i) (bxAt bs o))=false) ⟨_,_,rfl,Same.refl _,rfl⟩ ?_ ?_⟩
 ·rintro o σ1 H2 ho ⟨u3,u4,rfl,s2,an⟩;have hob:o < bs.length:=by omega
  have ho':(List.range bs.length)[o]?=some o:=List.getElem?_range hob;obtain ⟨yo,hyo⟩:∃ y,ys[o]?=some y:=⟨_,List.getElem?_eq_getElem (by omega)⟩
  refine ⟨_,rfl,_,rfl,by omega,by omega,yX (n:=(0+(o:Int)).toNat) (λi σ1 H'=>∃ (u4:Option V),σ1=[some (.ref p),some (.ref l),some (.ref r),some (.int (0+(o:Int))),u4]/\Same H1 H'/\((List.range o).take i).any (λi=>(decide ((i:Int)∈numP ps) || decide ((o:Int)∈numP ps)) && crnB (bxAt bs i) (bxAt bs o))=false) ⟨_,rfl,s2,rfl⟩ ?_ ?_⟩
  ·rintro i σ1 H3 hi ⟨u4,rfl,s3,dI⟩;have hio:i < o:=by omega
   have hi':(List.range o)[i]?=some i:=List.getElem?_range hio;obtain ⟨yi,hyi⟩:∃ y,ys[i]?=some y:=⟨_,List.getElem?_eq_getElem (by omega)⟩
   have aJ:=s1.trans s3;obtain ⟨bi,hbi,qi⟩:=Al2.get (zT alb aJ) hyi;obtain ⟨bo,hbo,qo⟩:=Al2.get (zT alb aJ) hyo;have ei:bxAt bs i=bi:=by
    unfold bxAt;rw [List.getD_eq_getElem?_getD,hbi];rfl
   have eo:bxAt bs o=bo:=by
    unfold bxAt;rw [List.getD_eq_getElem?_getD,hbo];rfl
   have fW:SqL K H3 r (yC (numP ps)):=SqL.of (s3 _ _ e1);refine ⟨_,rfl,_,rfl,r,_,rfl,.inl fW,rfl,YE _,_,rfl,?_⟩;show if (inV (V.int (0+(i:Int))) (yC (numP ps)))=true then _ else _
   rw [show (0:Int)+(i:Int)=(i:Int) by omega,show inV (V.int (i:Int)) (yC (numP ps))=decide ((i:Int)∈numP ps) from Jj _ _]
   refine zd (λc1=>?_) (λc1=>?_)
   ·refine iteT ?_;refine ⟨_,rfl,_,rfl,l,_,_,_,rfl,rfl,SqL.of (aJ _ _ hl),yA hyi,_,rfl,_,rfl,l,_,_,_,rfl,rfl,SqL.of (aJ _ _ hl),atI_z hyo,_,_,bi,bo,rfl,qi,qo,λH4 s4=>⟨_,rfl,?_⟩⟩
    have bB:=s3.trans s4;cases hc:crnB bi bo with
    |true=>
     refine iteT ?_;have z:=k H4 (s1.trans bB);have e:cnrP bs ps=true:=by
      unfold cnrP;exact j6 _ ho' (j6 _ hi' (by rw [ei,eo,hc]; simp [c1]))
     rw [e,Bool.true_or] at z;exact z
    |false=>
     refine iteF ?_;exact ⟨_,rfl,bB,jN _ hi' dI (by rw [ei,eo,hc,Bool.and_false])⟩
   ·refine ⟨_,rfl,_,rfl,r,_,rfl,.inl fW,rfl,YE _,_,rfl,?_⟩;show if (inV (V.int (0+(o:Int))) (yC (numP ps)))=true then _ else _
    rw [show inV (V.int (0+(o:Int))) (yC (numP ps))=decide ((o:Int)∈numP ps) by rw [show (0:Int)+(o:Int)=(o:Int) by omega]; exact Jj _ _]
    refine zd (λc2=>?_) (λc2=>?_)
    ·skip
     refine ⟨_,rfl,_,rfl,l,_,_,_,rfl,rfl,SqL.of (aJ _ _ hl),yA hyi,_,rfl,_,rfl,l,_,_,_,rfl,rfl,SqL.of (aJ _ _ hl),atI_z hyo,_,_,bi,bo,rfl,qi,qo,λH4 s4=>⟨_,rfl,?_⟩⟩
     have bB:=s3.trans s4;cases hc:crnB bi bo with
     |true=>
      refine iteT ?_;have z:=k H4 (s1.trans bB);have e:cnrP bs ps=true:=by
       unfold cnrP;exact j6 _ ho' (j6 _ hi' (by rw [ei,eo,hc]; simp [c2]))
      rw [e,Bool.true_or] at z;exact z
     |false=>
      refine iteF ?_;exact ⟨_,rfl,bB,jN _ hi' dI (by rw [ei,eo,hc,Bool.and_false])⟩
    ·refine iteF ?_;exact ⟨_,rfl,s3,jN _ hi' dI (by rw [decide_eq_false c1,decide_eq_false c2]; rfl)⟩
  ·rintro σ1 H3 ⟨u4,rfl,s3,dI⟩;rw [show (0+(o:Int)).toNat=o by omega,List.take_of_length_le (by rw [List.length_range]; exact Nat.le_refl _)] at dI
   exact ⟨_,_,rfl,s3,jN _ ho' an dI⟩
 ·rintro σ1 H2 ⟨u3,u4,rfl,s2,an⟩;rw [show ((ys.length:Nat):Int).toNat=bs.length by omega,List.take_of_length_le (by rw [List.length_range]; exact Nat.le_refl _)] at an
  have ao:=s1.trans s2;have nh:=ao _ _ hj;refine ⟨_,rfl,p,_,_,_,rfl,ao _ _ pg.ob,pj.fj,j,kvs,rfl,nh,λo=>?_⟩
  obtain ⟨H3,q3,s3,e3⟩:=newB (H:=H2) (p:=j) (.frz o (.dT kvs));rw [q3];clear q3;have nt:NoT [j] H2:=NoT.dct nh NoT.nil;have b3:Buts [j] H2 H3:=Buts.one s3 (by simp)
  have ni:=s3 _ _ npj (ao _ _ pg.ob);have eF:PlJ K H3 R gs fs j kvs:=(pj.same ao).buts b3 nt (.inr ⟨o,e3⟩);have o4:=(oc.same ao).buts b3 nt;have lk:kvs.length<=200:=by
   have z:=congrArg List.length pj.ks;rw [List.length_map,List.length_map] at z;have:=YK l6;omega
  refine lc_dictB (ps:=prsP gs.length) (λq=>cmgP R gs c q && corP R gs q) pj.ks e3 (Nat.le_trans lk (by decide)) ?_ ?_
  ·intro q b H4 hq s4 hb Q' hQ;have hin:=zh.mp hq;refine ⟨_,rfl,p,_,_,rfl,s4 _ _ ni,pg.nm.is_coming,_,rfl,p,b,R,gs,dx,_,j,kvs,q,_,co,rfl,s4 _ _ ni,eF.same s4,hb,hin,fc,o4.same s4,_,rfl,?_⟩;cases hc:cmgP R gs c q with
   |false=>
    refine iteF ?_;have z:=hQ H4 (Same.refl _);rw [hc,Bool.false_and] at z;exact z
   |true=>
    refine iteT ?_;refine ⟨_,rfl,p,_,_,rfl,s4 _ _ ni,pg.nm.close_at_a_corner,_,rfl,p,b,R,gs,dx,_,j,kvs,q,rfl,s4 _ _ ni,eF.same s4,hb,hin,λH5 s5=>?_⟩
    have z:=hQ H5 s5;rw [hc,Bool.true_and] at z;exact z
  ·intro H4 s4 r4 ib;obtain ⟨H5,q5,s5,e5⟩:=newO ib (.lst (((prsP gs.length).map λq=>cmgP R gs c q && corP R gs q).map V.bl))
   rw [q5];clear q5;refine ⟨j,o,kvs,nh,(s4.trans s5) _ _ e3,?_⟩;obtain ⟨H6,q6,s6,e6⟩:=newB (H:=H5) (p:=j) (.dT kvs);rw [q6];clear q6;have eR:Same H2 H6:=thawed (v:=.dT kvs) nh s3 (s4.trans s5) s6 e6;have r4j:r4≠j:=λz=>by
    rw [z,s4 _ _ e3] at ib;cases ib
   refine ⟨r4,_,rfl,SqL.of (s6 _ _ r4j e5),?_⟩;have z:=k H6 (ao.trans eR);unfold cnrP at z;rw [an,Bool.false_or] at z;unfold cloP at z;rw [show (((prsP gs.length).map λq=>cmgP R gs c q && corP R gs q).any id)=(prsP gs.length).any λp=>cmgP R gs c p && corP R gs p by rw [List.any_map]; rfl]
   exact z
noncomputable def Zx (K:Frag) (C:Addr):Sp:=λvs H Q _=>∃ (p:Addr) (R:Rat × Rat) (gs:List Bq) (dx:Addr) (fs:List (Str × V)) (wl g:Addr) (xs:List V) (j:Addr) (kvs:List (List Key × V)) (du:Addr) (ds:List V) (ps:List Pr) (now t:Rat) (pc:Addr),vs=[.ref p]/\PlG K H C p R gs dx fs wl g xs/\PlJ K H R gs fs j kvs/\H j=some (.dT kvs)/\wl≠j/\fs.lookup ("due" : Str)=some (.ref du)/\H du=some (.lst ds)/\Al2 (PrH H) ds ps/\ps.length<=200/\gs.length<=6/\ps=dueP R gs now/\comP R gs now=some t/\fs.lookup ("coming" : Str)=some (.ref pc)/\FQ K H pc t/\FB 2000 t/\∀ (H1:Hp),Same H H1->Q (.bl (crwP R gs now)) H1
theorem jT:FnScope ["self","boxes"] ["self"] (zD (zO (top 65) 12)):={}
theorem ok_Plane_is_crowded (D:DfM K (C 0) "is_crowded" "Plane.is_crowded" (zO (top 65) 12) ["self"]) (T:Tx K mg C) (aA:FnM P w K mg base 5 (C 0) "bodies_at" ["self","moment"] (ZA K (C 0))) (aK:FnM P w K mg base 2 (C 0) "has_two_meetings" ["self"] (jM K (C 0))) (aT:FnM P w K mg base 6 (C 0) "is_hemmed_in" ["self","boxes"] (ZM K (C 0))) (aU:FnM P w K mg base 6 (C 0) "has_a_corner" ["self","boxes"] (ZQ K (C 0))):FnM P w K mg base 7 (C 0) "is_crowded" ["self"] (Zx K (C 0)):=by
 refine D.ok0 jT (λvs H Q E h=>?_) (λf cdv A outer s H vs Q E hr h=>?_)
 ·obtain ⟨p,R,gs,dx,fs,wl,g,xs,j,kvs,du,ds,ps,now,t,pc,rfl,_⟩:=h;rfl
 obtain ⟨p,R,gs,dx,fs,wl,g,xs,j,kvs,du,ds,ps,now,t,pc,rfl,pg,pj,hj,njw,fd,hd,al,l2,l6,eps,ec,fc,gt,dt,k⟩:=h
 refine ⟨_,(zE (zM (i:=1) jT.nd rfl (Or.inl rfl) (yb T.cl_Plane aA (by decide) hr zG (pv 0) (zA (zW T.cl_Plane T.n_Plane_coming (pv 0)) zB)))
   (zF (zL (pe_or (YD T.cl_Plane aK (by decide) hr zG (pv 0)) (pe_or (yb T.cl_Plane aT (by decide) hr zG (pv 0) (zA (pv 1) zB)) (yS (yb T.cl_Plane aU (by decide) hr zG (pv 0) (zA (pv 1) zB)))))))),?_⟩
 try dsimp only [cxK,cxK0]
 refine ⟨_,rfl,p,_,_,rfl,pg.ob,pg.nm.bodies_at,_,rfl,p,_,_,_,rfl,pg.ob,fc,p,pc,dx,g,fs,xs,gs,t,rfl,pg.ob,pg.fg,pg.hg,pg.al,l6,gt,dt,λr ys H1 s1 n1 e1 E6=>?_⟩
 have eg:((comP R gs now).getD 0)=t:=by rw [ec]; rfl
 unfold crwP at k;rw [eg,<- eps] at k;have el:=pg.same s1;have al1d:=z8 al s1;refine ⟨_,rfl,p,_,_,rfl,el.ob,el.nm.has_two_meetings,p,dx,fs,du,ds,ps,rfl,el.ob,fd,s1 _ _ hd,al1d,l2,el.nm.boxes_met,λH2 s2=>⟨_,rfl,?_⟩⟩
 have ao:=s1.trans s2;cases c1:twoP ps with
 |true=>
  have z:=k H2 ao;rw [c1,Bool.true_or] at z;exact iteT z
 |false=>
  refine iteF ?_;rw [c1,Bool.false_or] at k;have bX:=pg.same ao;refine ⟨_,rfl,p,_,_,rfl,bX.ob,bX.nm.is_hemmed_in,_,rfl,p,r,R,gs,dx,fs,wl,g,xs,j,kvs,du,ds,ps,ys,_,rfl,bX,pj.same ao,ao _ _ hj,njw,fd,ao _ _ hd,z8 al ao,l2,l6,s2 _ _ e1,zT E6 s2,by rw [List.length_map],λH3 s3=>⟨_,rfl,?_⟩⟩
  have aJ:=ao.trans s3;cases c2:hemP R (gs.map (atB t)) ps with
  |true=>
   have z:=k H3 aJ;rw [c2,Bool.true_or] at z;exact iteT z
  |false=>
   refine iteF ?_;rw [c2,Bool.false_or] at k;have cR:=pg.same aJ;exact ⟨_,rfl,p,_,_,rfl,cR.ob,cR.nm.has_a_corner,_,rfl,p,r,R,gs,dx,fs,wl,g,xs,j,kvs,du,ds,ps,ys,_,some t,.ref pc,rfl,cR,pj.same aJ,aJ _ _ hj,njw,fd,aJ _ _ hd,z8 al aJ,l2,l6,(s2.trans s3) _ _ e1,zT E6 (s2.trans s3),by rw [List.length_map],fc,.inr ⟨t,pc,rfl,rfl,Kw.Same.tup aJ gt,dt⟩,λH4 s4=>by have z:=k H4 (aJ.trans s4); rw [ec] at z; exact z⟩
noncomputable def spP_part (K:Frag) (C:Addr):Sp:=λvs H Q _=>∃ (p pb:Addr) (R:Rat × Rat) (gs:List Bq) (dx:Addr) (fs:List (Str × V)) (wl g:Addr) (xs:List V) (j:Addr) (kvs:List (List Key × V)) (q:Pr) (B:Nat),vs=[.ref p,.ref pb]/\PlG K H C p R gs dx fs wl g xs/\PlJ K H R gs fs j kvs/\H j=some (.dT kvs)/\wl≠j/\H pb=some (.tup ((keyP q).map kV))/\InP gs.length q/\gs.length<=6/\WtB gs/\CmP B R gs/\B<=1900/\∀ (xs':List V) (kvs':List (List Key × V)) (H1:Hp),Buts [g,j] H H1->PlG K H1 C p R (prtP R gs q) dx fs wl g xs'->PlJ K H1 R (prtP R gs q) fs j kvs'->H1 j=some (.dT kvs')->Q .non H1
theorem zx:FnScope ["self","pair","way","one","other","left","right","changed","near"] ["self","pair"] (zD (zO (top 65) 17)):={}
theorem ok_Plane_part (D:DfM K (C 0) "part" "Plane.part" (zO (top 65) 17) ["self","pair"]) (T:Tx K mg C) (ai:FnM P w K mg base 1 (C 0) "one_of" ["self","pair","boxes"] (jb K (C 0))) (ae:FnM P w K mg base 1 (C 0) "other_of" ["self","pair","boxes"] (y4 K (C 0))) (aS:Fn P w K mg base 4 "far_going" ["box","way"] (Za K)) (aO:Fn P w K mg base 1 "near_going" ["box","way"] (ZH K)) (bu:Fn P w K mg base 4 "with_far_going" ["box","way","going"] (jy K)) (au:Fn P w K mg base 1 "with_near_going" ["box","way","going"] (yn K)) (cS:Fn P w K mg base 5 "parted" ["own","far"] (sp_parted K)) (aC:FnM P w K mg base 5 (C 0) "joint_of" ["self","pair"] (ZU K (C 0))):FnM P w K mg base 6 (C 0) "part" ["self","pair"] (spP_part K (C 0)):=by
 refine D.ok0 zx (λvs H Q E h=>?_) (λf cdv A outer s H vs Q E hr h=>?_)
 ·obtain ⟨p,pb,R,gs,dx,fs,wl,g,xs,j,kvs,q,B,rfl,_⟩:=h;rfl
 obtain ⟨p,pb,R,gs,dx,fs,wl,g,xs,j,kvs,q,B,rfl,pg,pj,hj,njw,hb,hin,l6,hw,cm,hB,k⟩:=h
 refine ⟨_,(zE (zM (i:=2) zx.nd rfl (Or.inl rfl) (zH ix_tup (pv 1) zC (λ_ _=>rfl)))
   (zE (zM (i:=3) zx.nd rfl (Or.inl rfl) (yb T.cl_Plane ai (by decide) hr zG (pv 0) (zA (pv 1) (zA (zW T.cl_Plane T.n_Plane_goings (pv 0)) zB))))
   (zE (zM (i:=4) zx.nd rfl (Or.inl rfl) (yb T.cl_Plane ae (by decide) hr zG (pv 0) (zA (pv 1) (zA (zW T.cl_Plane T.n_Plane_goings (pv 0)) zB))))
   (zE (zM (i:=5) zx.nd rfl (Or.inl rfl) (zI aS (by decide) hr (by rfl) zG (zA (pv 3) (zA (pv 2) zB))))
   (zE (zM (i:=6) zx.nd rfl (Or.inl rfl) (zI aO (by decide) hr (by rfl) zG (zA (pv 4) (zA (pv 2) zB))))
   (zE (zf (zR Y7 (zH ix_tup (pv 1) zC (λ_ _=>rfl)) zC (zS _)) (zF (YX (zI bu (by decide) hr (by rfl) zG (zA (pv 3) (zA (pv 2) (zA (zI cS (by decide) hr (by rfl) zG (zA (pv 5) (zA (pv 6) zB))) zB)))) (J7 (zW T.cl_Plane T.n_Plane_goings (pv 0)) (zH ix_tup (pv 1) zC (λ_ _=>rfl)) YA))) zX)
   (zE (zf (zR Y7 (zH ix_tup (pv 1) zC (λ_ _=>rfl)) zC (zS _)) (zF (YX (zI au (by decide) hr (by rfl) zG (zA (pv 4) (zA (pv 2) (zA (zI cS (by decide) hr (by rfl) zG (zA (pv 6) (zA (pv 5) zB))) zB)))) (J7 (zW T.cl_Plane T.n_Plane_goings (pv 0)) (zH ix_tup (pv 1) zC (λ_ _=>rfl)) YA))) zX)
   (zE (@ps_lcT _ _ _ _ _ _ _ _ _ _ _ _ [] [] 7 _ _ _ zx.nd rfl rfl rfl rfl (pi_tup (Y9 (Jq (K:=K) rfl) (pv 1) (Yw zC) po_none)) rfl (by decide) rfl (by decide) rfl (by decide) yx (λ_ _ h=>nomatch h) (jV rfl) (λC z Hc fp=>Y8 (zR Y7 (pv 0) zC (zS _))) (λC z Hc fp=>(pv 0)) (λ_=>rfl))
   (zF (yH PassesOwn.never rfl (zo (jZ (call_list_dct rfl) (by rfl) T.b_list PyProof.Rows.Boot.«list» (zA (zW T.cl_Plane T.n_Plane_joints (pv 0)) zB))) (zV (i:=8) zx.nd rfl (Or.inl rfl)) (zF (zf (Z7 (zR jh (zH ix_tup (pv 8) zC (λ_ _=>rfl)) (pv 2) (zS _)) (jx (jz (zR YO (zH ix_tup (pv 8) zC (λ_ _=>rfl)) (pv 7) (by first|rfl|with_unfolding_all rfl)) (yt (zR YO (zH ix_tup (pv 8) zC (λ_ _=>rfl)) (pv 7) (by first|rfl|with_unfolding_all rfl)))).pt)).pt (zF (ps_dput (YT (u100 hr)) (zW T.cl_Plane T.n_Plane_joints (pv 0)) (pv 8) (yb T.cl_Plane aC (by decide) hr zG (pv 0) (zA (pv 8) zB)) rfl)) zX)))))))))))),?_⟩
 try dsimp only [cxK,cxK0]
 have hq:SqT K H pb [.int (q.1:Int),.int q.2.1,.int q.2.2]:=SqT.of hb;have hz:=Al2.len pg.al;have npg:p≠g:=zy pg.ob pg.hg (by intro z; cases z)
 have npj:p≠j:=zy pg.ob hj (by intro z; cases z)
 have njg:j≠g:=zy hj pg.hg (by intro z; cases z)
 obtain ⟨wkv,hwl⟩:∃ kv,H wl=some (.dT kv):=by
  obtain ⟨_,_,_,_,e,_⟩:=pg.ws;exact ⟨_,e⟩
 have nwg:wl≠g:=zy hwl pg.hg (by intro z; cases z)
 obtain ⟨f1,f2⟩:=cm.fbs (q:=q) hw hin (by omega)
 refine ⟨_,rfl,pb,_,_,_,rfl,rfl,hq,rfl,?_⟩;refine ⟨_,rfl,p,_,_,rfl,pg.ob,pg.nm.one_of,_,rfl,_,rfl,p,_,_,_,rfl,pg.ob,pg.fg,p,pb,g,R,gs,dx,fs,wl,g,xs,q,xs,gs,1990,rfl,pg,hb,pg.hg,pg.al,hin,Nat.le_refl _,λv1 H1 s1 k1=>?_⟩
 have el:=pg.same s1;refine ⟨_,rfl,p,_,_,rfl,el.ob,el.nm.other_of,_,rfl,_,rfl,p,_,_,_,rfl,el.ob,el.fg,p,pb,g,R,gs,dx,fs,wl,g,xs,q,xs,gs,1990,rfl,el,s1 _ _ hb,el.hg,el.al,hin,Nat.le_refl _,λv2 H2 s2 k2=>?_⟩
 refine ⟨_,rfl,_,rfl,v1,_,q.1,rfl,k1.same s2,hin.1,(cm.far q.1 q.2.1).mono (by omega),λr3 H3 s3 k3=>?_⟩
 refine ⟨_,rfl,_,rfl,v2,_,q.1,rfl,k2.same s3,hin.1,λr4 H4 s4 k4=>?_⟩
 have E7:=s3.trans s4;have bB:=s2.trans E7;have o5:=s1.trans bB;have cb:=pg.same o5;have iE:=Kw.Same.tup o5 hq;have o6:=k1.same bB;have o7:=k2.same E7;have nk:=k3.same s4;have mA:0<=q.2.1->(boxB R gs q.1 q.2.1).m≠none:=λz=>by
  obtain ⟨m,em,_⟩:=jP (R:=R) (d:=q.1) hw z (hin.l1 z);rw [em];exact λy=>nomatch y
 have mB:0<=q.2.2->(boxB R gs q.1 q.2.2).m≠none:=λz=>by
  obtain ⟨m,em,_⟩:=jP (R:=R) (d:=q.1) hw z (hin.l2 z);rw [em];exact λy=>nomatch y
 have ntg:NoT [g] H4:=NoT.lst cb.hg NoT.nil;refine g_go ?_;dsimp only;refine cut1 (λσ' H'=>∃ (ie:List V),σ'=[some (.ref p),some (.ref pb),some (.int (q.1:Int)),some v1,some v2,some (.ref r3),some (.ref r4),none,none]/\But g H4 H'/\H' g=some (.lst ie)/\Al2 (BqH K 1990 H') ie (prtA R gs q)) (λN hN=>?_) ?_
 ·refine ⟨_,rfl,pb,_,_,_,rfl,rfl,iE,rfl,_,_,rfl,rfl,_,rfl,?_⟩;refine zd (λc=>?_) (λc=>?_)
  ·obtain ⟨fa,fb,fc⟩:=f1 c;refine ⟨_,rfl,_,rfl,_,rfl,_,rfl,_,_,farG (boxB R gs q.1 q.2.1) q.1,zm (boxB R gs q.1 q.2.2) q.1,rfl,nk,k4,.inr (mA c),fa,fb,λr5 a5 c5 Hv H5 s5 h5 g5 Hw=>?_⟩
   refine ⟨v1,_,q.1,r5,a5,c5,_,_,Hv,rfl,o6.same s5,hin.1,h5,g5,Hw,fa,fb,fc,λr6 H6 s6 k6=>?_⟩
   have fX:=s5.trans s6;have fo:=cb.same fX;have o8:=Kw.Same.tup fX iE;refine ⟨_,rfl,p,_,_,_,rfl,fo.ob,fo.fg,_,rfl,pb,_,_,_,rfl,rfl,o8,rfl,g,xs,_,q.2.1.toNat,rfl,rfl,fo.hg,by rw [show q.2.1=((q.2.1.toNat:Nat):Int) by omega]; exact ixN_nat (by have:=hin.l1 c; omega),?_⟩
   obtain ⟨H7,q7,s7,e7⟩:=newB (H:=H6) (p:=g) (.lst (xs.set q.2.1.toNat (V.ref r6)));dsimp only;rw [q7];clear q7;refine hN _ _ ⟨_,rfl,(But.of fX).trans s7,e7,?_⟩;have nr:NoT [g] H6:=NoT.lst fo.hg NoT.nil;have b7:Buts [g] H6 H7:=Buts.one s7 (by simp)
   unfold prtA;rw [if_pos c];exact Al2.set (yk fo.al b7 nr) (k6.buts b7 nr)
  ·refine hN _ _ ⟨xs,rfl,But.refl _,cb.hg,?_⟩;unfold prtA;rw [if_neg c];exact cb.al
 rintro σ' H5 ⟨ie,rfl,s5,o9,bY⟩;have b5:Buts [g] H4 H5:=Buts.one s5 (by simp)
 have Hx:=s5 _ _ npg cb.ob;have E8:=b5.tup ntg iE;have Hy:=Al2.len bY;rw [Z9] at Hy;refine cut1 (λσ' H'=>∃ (eS:List V),σ'=[some (.ref p),some (.ref pb),some (.int (q.1:Int)),some v1,some v2,some (.ref r3),some (.ref r4),none,none]/\But g H5 H'/\H' g=some (.lst eS)/\Al2 (BqH K 1990 H') eS (prtP R gs q)) (λN hN=>?_) ?_
 ·refine ⟨_,rfl,pb,_,_,_,rfl,rfl,E8,rfl,_,_,rfl,rfl,_,rfl,?_⟩;refine zd (λc=>?_) (λc=>?_)
  ·obtain ⟨fa,fb⟩:=f2 c;have Hz:GoQ K 1990 H5 (.ref r3) (farG (boxB R gs q.1 q.2.1) q.1):=by
    obtain ⟨p',a',c',e',eY,iB,h3',d'⟩:=nk;exact ⟨p',a',c',e',b5.tup ntg eY,b5.tup ntg iB,b5.tup ntg h3',d'⟩
   have HA:GoQ K 1990 H5 (.ref r4) (zm (boxB R gs q.1 q.2.2) q.1):=by
    obtain ⟨p',a',c',e',eY,iB,h3',d'⟩:=k4;exact ⟨p',a',c',e',b5.tup ntg eY,b5.tup ntg iB,b5.tup ntg h3',d'⟩
   refine ⟨_,rfl,_,rfl,_,rfl,_,rfl,_,_,zm (boxB R gs q.1 q.2.2) q.1,farG (boxB R gs q.1 q.2.1) q.1,rfl,HA,Hz,.inr (mB c),fa,fb,λr6 a6 c6 dk H6 s6 h6 g6 HB=>?_⟩
   refine ⟨v2,_,q.1,r6,a6,c6,_,_,dk,rfl,(o7.buts b5 ntg).same s6,hin.1,h6,g6,HB,fa,fb,λr7 H7 s7 k7=>?_⟩
   have ig:=s6.trans s7;have HC:=Kw.Same.tup ig E8;refine ⟨_,rfl,p,_,_,_,rfl,ig _ _ Hx,pg.fg,_,rfl,pb,_,_,_,rfl,rfl,HC,rfl,g,ie,_,q.2.2.toNat,rfl,rfl,ig _ _ o9,by rw [show q.2.2=((q.2.2.toNat:Nat):Int) by omega]; exact ixN_nat (by have:=hin.l2 c; omega),?_⟩
   obtain ⟨H8,q8,s8,e8⟩:=newB (H:=H7) (p:=g) (.lst (ie.set q.2.2.toNat (V.ref r7)));dsimp only;rw [q8];clear q8;refine hN _ _ ⟨_,rfl,(But.of ig).trans s8,e8,?_⟩;have m9:NoT [g] H7:=NoT.lst (ig _ _ o9) NoT.nil;have b8:Buts [g] H7 H8:=Buts.one s8 (by simp)
   unfold prtP;rw [if_pos c];exact Al2.set (yk (zT bY ig) b8 m9) (k7.buts b8 m9)
  ·refine hN _ _ ⟨ie,rfl,But.refl _,o9,?_⟩;unfold prtP;rw [if_neg c];exact bY
 rintro σ' H6 ⟨eS,rfl,s6,hg6,al6⟩;have HD:But g H H6:=(But.of o5).trans (s5.trans s6);have gw:Buts [g] H H6:=Buts.one HD (by simp)
 have gz:NoT [g] H:=NoT.lst pg.hg NoT.nil;have o8:=gw.tup gz hq;refine ⟨_,rfl,_,rfl,pb,_,rfl,o8,cut_gt (n:=3) (by decide) (by decide),?_⟩
 intro p7 n7;obtain ⟨H7,q7,s7,e7⟩:=newO n7 (.tup (cutV [.int (q.1:Int),.int q.2.1,.int q.2.2] (some 1) none));rw [q7];clear q7;have E9:H7 p7=some (.tup [.int q.2.1,.int q.2.2]):=e7;refine ⟨p7,rfl,⟨_,SqT.of E9⟩,lc_tupG (K:=K) (λv=>match v with|.int i=>decide (0<=i)|_=>false) (SqT.of E9) (by show 2<=sizeLine; decide) ?_ ?_ ?_⟩
 ·intro x hx Q1 q1;obtain ⟨i,rfl⟩:∃ i:Int,x=.int i:=by
   rcases List.mem_cons.mp hx with rfl|hx
   ·exact ⟨_,rfl⟩
   ·rw [List.mem_singleton.mp hx];exact ⟨_,rfl⟩
  exact ⟨_,rfl,_,_,rfl,rfl,_,rfl,q1⟩
 ·intro x hx Q1 q1;exact ⟨_,rfl,q1⟩
 intro l8 pf;obtain ⟨ch,ech⟩:∃ ch:List Int,ch=[q.2.1,q.2.2].filter λi=>decide (0<=i):=⟨_,rfl⟩
 have ef:(([.int q.2.1,.int q.2.2]:List V).filter λv=>match v with|.int i=>decide (0<=i)|_=>false)=ch.map V.int:=by
  rw [ech];exact List.filter_map (f:=V.int) (l:=[q.2.1,q.2.2]) (p:=λv=>match v with|.int i=>decide (0<=i)|_=>false)
 rw [ef];obtain ⟨H8,q8,s8,e8⟩:=newO pf (.lst (ch.map V.int));rw [q8];clear q8;have mch:∀ i:Int,i∈ch↔0<=i/\(i=q.2.1\/i=q.2.2):=λi=>by
  rw [ech,List.mem_filter];simp only [List.mem_cons,List.not_mem_nil,or_false,decide_eq_true_eq];exact ⟨λh=>⟨h.2,h.1⟩,λh=>⟨h.2,h.1⟩⟩
 have Fa:=s7.trans s8;have pi:Buts [g] H H8:=gw.trans (Buts.of Fa);have pk:H8 j=some (.dT kvs):=pi _ _ (by simp [njg]) hj
 have Fb:=pi _ _ (by simp [npg]) pg.ob
 refine ⟨_,rfl,p,_,_,_,rfl,Fb,pj.fj,j,kvs,prsP gs.length,rfl,pk,pj.ks,λl9 ds iH ii=>?_⟩
 obtain ⟨H9,q9,s9,e9⟩:=newO iH (.lst ds);rw [q9];clear q9;have hzd:=Al2.len ii;have nu:=Fa.trans s9;have nd:=zAK l6;have cm':=cm.part hw hin;have iI:=s9 _ _ pk;have pp:Buts [g] H H9:=pi.trans (Buts.of s9);have iJ:PlG K H9 (C 0) p R (prtP R gs q) dx fs wl g eS:=⟨s9 _ _ Fb,pg.fw,pg.fg,pg.ws.buts pp gz (by simp [nwg]),nu _ _ hg6,zT al6 nu,pg.nm⟩
 have l9j:l9≠j:=λz=>by rw [z,pk] at iH; cases iH
 have l8j:l8≠j:=λz=>by rw [z,(s7 _ _ (gw _ _ (by simp [njg]) hj))] at pf; cases pf
 have ntj:NoT [j] H9:=NoT.dct iI NoT.nil;refine ⟨l9,rfl,⟨_,SqL.of e9⟩,ZO (K:=K) (a:=l9) (xs:=ds) (λi σ1 H'=>∃ (u8:Option V) (kv:List (List Key × V)),σ1=[some (.ref p),some (.ref pb),some (.int (q.1:Int)),some v1,some v2,some (.ref r3),some (.ref r4),some (.ref l8),u8]/\Buts [j] H9 H'/\H' j=some (.dT kv)/\kv.map (·.1)=(prsP gs.length).map keyP/\Al2 (OptB K H') (kv.map (·.2)) (mixL (jntP R gs) (jntP R (prtP R gs q)) (prsP gs.length) i)) ⟨_,kvs,rfl,Buts.refl,iI,pj.ks,by rw [mix_zero]; exact ya pj.js pp gz⟩ (by rintro _ _ _ _ ⟨_,_,_,g',_⟩; exact SqL.of (g' _ _ (by simp [l9j]) e9)) ?_ ?_⟩
 ·rintro i x σ1 bC hx ⟨u8,kv,rfl,aX,bP,bv,dS⟩;have hi:i < ds.length:=(List.getElem?_eq_some_iff.mp hx).1;obtain ⟨r,hr',c,rfl,iK⟩:=Al2.get (y3 (z8 ii s9) aX ntj) hx;have hrin:=zh.mp (List.mem_of_getElem? hr');have hrt:SqT K bC c [.int (r.1:Int),.int r.2.1,.int r.2.2]:=SqT.of iK;have hch:SqL K bC l8 (ch.map V.int):=SqL.of (aX _ _ (by simp [l8j]) (s9 _ _ e8))
  have stay:jntP R (prtP R gs q) r=jntP R gs r->∃ (u8:Option V) (kv:List (List Key × V)),[some (V.ref p),some (.ref pb),some (.int (q.1:Int)),some v1,some v2,some (.ref r3),some (.ref r4),some (.ref l8),some (.ref c)]=[some (.ref p),some (.ref pb),some (.int (q.1:Int)),some v1,some v2,some (.ref r3),some (.ref r4),some (.ref l8),u8]/\Buts [j] H9 bC/\bC j=some (.dT kv)/\kv.map (·.1)=(prsP gs.length).map keyP/\Al2 (OptB K bC) (kv.map (·.2)) (mixL (jntP R gs) (jntP R (prtP R gs q)) (prsP gs.length) (i+1)):=λe=>⟨_,kv,rfl,aX,bP,bv,by rw [<- mix_same hr' e]; exact dS⟩
  refine ⟨_,rfl,c,_,_,_,rfl,rfl,hrt,rfl,_,rfl,rfl,_,rfl,?_⟩;refine yr (λc1=>?_) (λc1=>?_)
  rotate_left
  ·refine iteF ?_;exact stay (jnt_else hin hrin.1 (.inl (by omega)))
  refine ⟨_,rfl,c,_,_,_,rfl,rfl,hrt,rfl,_,rfl,l8,_,rfl,.inl hch,rfl,YE _,_,rfl,?_⟩;show if (inV (V.int r.2.1) (ch.map V.int))=true then _ else _
  rw [Jj];refine zd (λc2=>?_) (λc2=>?_)
  ·refine iteT ?_;have bG:PlG K bC (C 0) p R (prtP R gs q) dx fs wl g eS:=iJ.buts aX ntj (by simp [npj]) (by simp [njw]) (by simp [Ne.symm njg])
   refine ⟨_,rfl,p,_,_,rfl,bG.ob,bG.nm.joint_of,_,rfl,p,c,R,prtP R gs q,dx,fs,wl,g,eS,r,rfl,bG,iK,by rw [yT]; exact hrin,(cm'.far r.1 r.2.1).mono (by omega),λt et=>(cm'.jnt et).mono (by omega),λiL b6 bJ pq=>?_⟩
   have bQ:=bJ _ _ bP;have lkv:kv.length<=200:=by
    have z:=congrArg List.length bv;rw [List.length_map,List.length_map] at z;have:=YK l6;omega
   refine ⟨_,rfl,p,_,_,_,rfl,bJ _ _ bG.ob,pj.fj,_,rfl,j,_,rfl,DPut.t (k:=keyP r) bQ (bJ _ _ iK) (Nat.lt_of_le_of_lt lkv (by decide)),?_⟩
   obtain ⟨dl,dU,ao,dQ⟩:=newB (H:=b6) (p:=j) (.dT (putK kv (keyP r) iL));dsimp only;rw [dU];clear dU;have hikv:i < kv.length:=by
    have z:=congrArg List.length bv;rw [List.length_map,List.length_map] at z;omega
   obtain ⟨⟨ky,wv⟩,hkv⟩:∃ e,kv[i]?=some e:=⟨_,List.getElem?_eq_getElem hikv⟩;obtain ⟨r',hr'',ek⟩:=JP bv hkv;rw [hr'] at hr'';cases hr''
   replace ek:ky=keyP r:=ek;subst ek;have ep:=putK_at (v:=iL) (by rw [bv]; exact nd) hkv
   have iM:Buts [j] bC dl:=(Buts.of bJ).trans (Buts.one ao (by simp))
   have dm:NoT [j] bC:=NoT.dct bP NoT.nil;have dr:NoT [j] b6:=NoT.dct bQ NoT.nil;refine ⟨_,_,rfl,aX.trans iM,dQ,?_,?_⟩
   ·rw [ep,List.map_set,bv];show ((prsP gs.length).map keyP).set i (keyP r)=_;refine List.ext_getElem? λn=>?_
    rw [List.getElem?_set];by_cases e:i=n
    ·subst e;rw [if_pos rfl,List.getElem?_map,hr',if_pos (by rw [List.length_map]; omega)]
     rfl
    ·rw [if_neg e]
   ·rw [ep,List.map_set,<- mix_set hr'];exact Al2.set (ya dS iM dm) (pq.buts (Buts.one ao (by simp)) dr)
  ·refine ⟨_,rfl,c,_,_,_,rfl,rfl,hrt,rfl,_,rfl,l8,_,rfl,.inl hch,rfl,YE _,_,rfl,?_⟩;show if (inV (V.int r.2.2) (ch.map V.int))=true then _ else _
   rw [Jj];refine zd (λc3=>?_) (λc3=>?_)
   ·skip
    have bG:PlG K bC (C 0) p R (prtP R gs q) dx fs wl g eS:=iJ.buts aX ntj (by simp [npj]) (by simp [njw]) (by simp [Ne.symm njg])
    refine ⟨_,rfl,p,_,_,rfl,bG.ob,bG.nm.joint_of,_,rfl,p,c,R,prtP R gs q,dx,fs,wl,g,eS,r,rfl,bG,iK,by rw [yT]; exact hrin,(cm'.far r.1 r.2.1).mono (by omega),λt et=>(cm'.jnt et).mono (by omega),λiL b6 bJ pq=>?_⟩
    have bQ:=bJ _ _ bP;have lkv:kv.length<=200:=by
     have z:=congrArg List.length bv;rw [List.length_map,List.length_map] at z;have:=YK l6;omega
    refine ⟨_,rfl,p,_,_,_,rfl,bJ _ _ bG.ob,pj.fj,_,rfl,j,_,rfl,DPut.t (k:=keyP r) bQ (bJ _ _ iK) (Nat.lt_of_le_of_lt lkv (by decide)),?_⟩
    obtain ⟨dl,dU,ao,dQ⟩:=newB (H:=b6) (p:=j) (.dT (putK kv (keyP r) iL));dsimp only;rw [dU];clear dU;have hikv:i < kv.length:=by
     have z:=congrArg List.length bv;rw [List.length_map,List.length_map] at z;omega
    obtain ⟨⟨ky,wv⟩,hkv⟩:∃ e,kv[i]?=some e:=⟨_,List.getElem?_eq_getElem hikv⟩;obtain ⟨r',hr'',ek⟩:=JP bv hkv;rw [hr'] at hr'';cases hr''
    replace ek:ky=keyP r:=ek;subst ek;have ep:=putK_at (v:=iL) (by rw [bv]; exact nd) hkv
    have iM:Buts [j] bC dl:=(Buts.of bJ).trans (Buts.one ao (by simp))
    have dm:NoT [j] bC:=NoT.dct bP NoT.nil;have dr:NoT [j] b6:=NoT.dct bQ NoT.nil;refine ⟨_,_,rfl,aX.trans iM,dQ,?_,?_⟩
    ·rw [ep,List.map_set,bv];show ((prsP gs.length).map keyP).set i (keyP r)=_;refine List.ext_getElem? λn=>?_
     rw [List.getElem?_set];by_cases e:i=n
     ·subst e;rw [if_pos rfl,List.getElem?_map,hr',if_pos (by rw [List.length_map]; omega)]
      rfl
     ·rw [if_neg e]
    ·rw [ep,List.map_set,<- mix_set hr'];exact Al2.set (ya dS iM dm) (pq.buts (Buts.one ao (by simp)) dr)
   ·exact stay (jnt_else hin hrin.1 (.inr ⟨λz=>c2 ((mch _).mpr z),λz=>c3 ((mch _).mpr z)⟩))
 ·rintro σ1 bC ⟨u8,kv,rfl,aX,bP,bv,dS⟩;rw [hzd,mix_all] at dS;have pgE:PlG K bC (C 0) p R (prtP R gs q) dx fs wl g eS:=iJ.buts aX ntj (by simp [npj]) (by simp [njw]) (by simp [Ne.symm njg])
  refine k eS kv bC (λa u na ha=>aX _ _ ?_ (pp _ _ ?_ ha)) pgE ⟨pj.fj,.inl bP,by rw [yT]; exact bv,by rw [yT]; exact dS⟩ bP
  ·simp only [List.mem_cons,List.not_mem_nil,or_false,not_or] at na ⊢;exact na.2
  ·simp only [List.mem_cons,List.not_mem_nil,or_false,not_or] at na ⊢;exact na.1
noncomputable def spP_go_on (K:Frag) (C:Addr):Sp:=λvs H Q _=>∃ (p:Addr) (R:Rat × Rat) (gs:List Bq) (now:Rat) (n:Nat) (wl g j:Addr) (t:Rat) (B:Nat),vs=[.ref p]/\Zq K H C p R gs now n wl g j/\gs.length<=6/\WtB gs/\comP R gs now=some t/\CmP B R gs/\B+15 * (dueP R gs now).length<=1900/\∀ (H1:Hp),Buts [p,g,j] H H1->Zq K H1 C p R (onP R gs now) t (n+1) wl g j->(∀ dx fs,H1 p=some (.ins C dx fs)->∀ du,fs.lookup ("due" : Str)=some (.ref du)->∀ z o,H z=some o->du≠z\/z=p\/z=g\/z=j)->Q .non H1
theorem Z1:FnScope ["self","pair"] ["self"] (zD (zO (top 65) 16)):={}
theorem ok_Plane_go_on (D:DfM K (C 0) "go_on" "Plane.go_on" (zO (top 65) 16) ["self"]) (T:Tx K mg C) (cI:FnM P w K mg base 6 (C 0) "part" ["self","pair"] (spP_part K (C 0))) (aq:FnM P w K mg base 6 (C 0) "look_ahead" ["self"] (jf K (C 0))):FnM P w K mg base 7 (C 0) "go_on" ["self"] (spP_go_on K (C 0)):=by
 refine D.ok0 Z1 (λvs H Q E h=>?_) (λf cdv A outer s H vs Q E hr h=>?_)
 ·obtain ⟨p,R,gs,now,n,wl,g,j,t,B,rfl,_⟩:=h;rfl
 obtain ⟨p,R,gs,now,n,wl,g,j,t,B,rfl,⟨dx,nw,co,du,xs,kvs,ds,pg,pj,hj,njw,gn,dn,oc,hd,al,ndg⟩,l6,hw,et,cm,hB,k⟩:=h
 refine ⟨_,(zE (jU T.cl_Plane T.n_Plane_now (pv 0) (zW T.cl_Plane T.n_Plane_coming (pv 0)))
   (zE (ps_fldadd T.cl_Plane T.n_Plane_gone_through in_add (pv 0) zC)
   (zE (yH PassesOwn.never rfl (zo (zW T.cl_Plane T.n_Plane_due (pv 0))) (zV (i:=1) Z1.nd rfl (Or.inl rfl)) (zF (yZ (yb T.cl_Plane cI (by decide) hr zG (pv 0) (zA (pv 1) zB)))))
   (zF (yZ (YD T.cl_Plane aq (by decide) hr zG (pv 0))))))),?_⟩
 try dsimp only [cxK,cxK0]
 have npg:p≠g:=zy pg.ob pg.hg (by intro z; cases z)
 have npj:p≠j:=zy pg.ob hj (by intro z; cases z)
 have njg:j≠g:=zy hj pg.hg (by intro z; cases z)
 have npd:p≠du:=zy pg.ob hd (by intro z; cases z)
 have njd:j≠du:=zy hj hd (by intro z; cases z)
 obtain ⟨wkv,hwl⟩:∃ kv,H wl=some (.dT kv):=by
  obtain ⟨_,_,_,_,e,_⟩:=pg.ws;exact ⟨_,e⟩
 have nwg:wl≠g:=zy hwl pg.hg (by intro z; cases z)
 have nwp:wl≠p:=zy hwl pg.ob (by intro z; cases z)
 obtain ⟨pt,rfl,gt,dt⟩:∃ pt:Addr,co=.ref pt/\FQ K H pt t/\FB 2000 t:=by
  rcases oc with ⟨e,_⟩|⟨q,pt,e,e',g',d'⟩
  ·rw [et] at e;cases e
  ·rw [et] at e;injection e with e
   subst e;exact ⟨pt,e',g',d'⟩
 refine ⟨_,rfl,p,_,_,_,rfl,pg.ob,rfl,_,rfl,p,dx,_,rfl,pg.ob,by show (7:Nat) < 1000; decide,?_⟩
 obtain ⟨H2,q2,s2,e2⟩:=newB (H:=H) (p:=p) (.ins (C 0) dx (putF ("now" : Str) (V.ref pt) (plF wl g nw (n:Int) j (.ref pt) du)));dsimp only;rw [q2];clear q2;replace e2:H2 p=some (.ins (C 0) dx (plF wl g pt (n:Int) j (.ref pt) du)):=e2;refine ⟨_,rfl,p,dx,_,_,rfl,e2,rfl,1,rfl,rfl,by show (7:Nat) < 1000; decide,?_⟩
 obtain ⟨H3,q3,s3,e3⟩:=newB (H:=H2) (p:=p) (.ins (C 0) dx (putF ("gone_through" : Str) (V.int ((n:Int)+1)) (plF wl g pt (n:Int) j (.ref pt) du)));dsimp only;rw [q3];clear q3;replace e3:H3 p=some (.ins (C 0) dx (plF wl g pt ((n+1:Nat):Int) j (.ref pt) du)):=e3;have b3:But p H H3:=s2.trans s3;have iN:Buts [p] H H3:=Buts.one b3 (by simp)
 have nt:NoT [p] H:=NoT.ins pg.ob NoT.nil;have cR:PlG K H3 (C 0) p R gs dx (plF wl g pt ((n+1:Nat):Int) j (.ref pt) du) wl g xs:=⟨e3,rfl,rfl,pg.ws.buts iN nt (by simp [nwp]),b3 _ _ (Ne.symm npg) pg.hg,yk pg.al iN nt,plF_nm⟩
 have gq:=b3 _ _ (Ne.symm npj) hj;have eF:PlJ K H3 R gs (plF wl g pt ((n+1:Nat):Int) j (.ref pt) du) j kvs:=⟨rfl,.inl gq,pj.ks,ya pj.js iN nt⟩;have Fc:=b3 _ _ (Ne.symm npd) hd;have eU:=y3 al iN nt;have Fd:=iN.tup nt gt;have iO:NoT [g,j] H3:=NoT.lst cR.hg (NoT.dct gq NoT.nil);have hzd:=Al2.len al;refine ⟨_,rfl,p,_,_,_,rfl,e3,rfl,du,rfl,⟨_,SqL.of Fc⟩,ZO (K:=K) (a:=du) (xs:=ds) (λm σ' H'=>∃ (u1:Option V) (xs':List V) (kvs':List (List Key × V)),σ'=[some (.ref p),u1]/\Buts [g,j] H3 H'/\PlG K H' (C 0) p R (((dueP R gs now).take m).foldl (prtP R) gs) dx (plF wl g pt ((n+1:Nat):Int) j (.ref pt) du) wl g xs'/\PlJ K H' R (((dueP R gs now).take m).foldl (prtP R) gs) (plF wl g pt ((n+1:Nat):Int) j (.ref pt) du) j kvs'/\H' j=some (.dT kvs')) ⟨_,xs,kvs,rfl,Buts.refl,cR,eF,gq⟩ (by rintro _ _ _ _ ⟨_,_,_,_,g5,_⟩; exact SqL.of (g5 _ _ (by simp [ndg,Ne.symm njd]) Fc)) ?_ ?_⟩
 ·rintro m x σ' H4 hx ⟨u1,xs',kvs',rfl,s4,cb,pj4,nv⟩;have hm:m < ds.length:=(List.getElem?_eq_some_iff.mp hx).1;obtain ⟨q,hq,b,rfl,hb⟩:=Al2.get (y3 eU s4 iO) hx;have hin:=z7 q (List.mem_of_getElem? hq);have hlt:∀ r∈(dueP R gs now).take m,InP gs.length r:=λr hr=>z7 r (List.mem_of_mem_take hr)
  obtain ⟨ny,nz⟩:=Yf ((dueP R gs now).take m) cm hw hlt;have ltk:((dueP R gs now).take m).length<=(dueP R gs now).length:=by rw [List.length_take]; omega
  have lgs:(((dueP R gs now).take m).foldl (prtP R) gs).length=gs.length:=yY _ _;refine ⟨_,rfl,p,_,_,rfl,cb.ob,rfl,_,rfl,p,b,R,_,dx,_,wl,g,xs',j,kvs',q,B+15 * ((dueP R gs now).take m).length,rfl,cb,pj4,nv,njw,hb,by rw [lgs]; exact hin,by rw [lgs]; exact l6,nz,ny,by omega,λHE pz H5 s5 ia m6 nA=>?_⟩
  have ef:((dueP R gs now).take (m+1)).foldl (prtP R) gs=prtP R (((dueP R gs now).take m).foldl (prtP R) gs) q:=by
   rw [zU hq,List.foldl_append];rfl
  rw [<- ef] at ia m6;exact ⟨_,HE,pz,rfl,s4.trans s5,ia,m6,nA⟩
 ·rintro σ' H4 ⟨u1,xs',kvs',rfl,s4,cb,pj4,nv⟩;rw [hzd,List.take_length] at cb pj4;have lgs:(onP R gs now).length=gs.length:=yY _ _;refine ⟨_,rfl,p,_,_,rfl,cb.ob,rfl,p,R,onP R gs now,dx,_,wl,g,xs',j,kvs',pt,t,rfl,cb,pj4,nv,njw,rfl,s4.tup iO Fd,dt,by show (7:Nat) < 900; decide,by rw [lgs]; exact l6,λiP ik pB H5 s5 n5 e5 gu HF bY=>?_⟩
  replace e5:H5 p=some (.ins (C 0) dx (plF wl g pt ((n+1:Nat):Int) j iP ik)):=e5;have nC:Buts [p] H4 H5:=Buts.one s5 (by simp)
  have nD:NoT [p] H4:=NoT.ins cb.ob NoT.nil;have nA:=s5 _ _ (Ne.symm npj) nv;refine k H5 (λa o na ha=>?_) ⟨dx,pt,iP,ik,xs',kvs',pB,⟨e5,rfl,rfl,cb.ws.buts nC nD (by simp [nwp]),s5 _ _ (Ne.symm npg) cb.hg,yk cb.al nC nD,plF_nm⟩,⟨rfl,.inl nA,pj4.ks,ya pj4.js nC nD⟩,nA,njw,nC.tup nD (s4.tup iO Fd),dt,gu,HF,bY,λz=>by rw [z,cb.hg] at n5; cases n5⟩ ?_
  ·simp only [List.mem_cons,List.not_mem_nil,or_false,not_or] at na;exact s5 _ _ na.1 (s4 _ _ (by simp [na.2.1,na.2.2]) (b3 _ _ na.1 ha))
  ·intro dx' fs' hp' du' hdu' z o hz;rw [e5] at hp';cases hp'
   cases (show some (V.ref ik)=some (.ref du') from hdu')
   by_cases y:z=p\/z=g\/z=j
   ·exact .inr y
   ·simp only [not_or] at y;refine .inl λx=>?_
    have w:=s4 _ _ (by simp [y.2.1,y.2.2]) (b3 _ _ y.1 hz)
    rw [<- x,n5] at w;cases w
noncomputable def JV (K:Frag):Sp:=λvs H Q _=>∃ (r x y:Addr) (R:Rat × Rat),vs=[.ref r]/\SqT K H r [.ref x,.ref y]/\FQ K H x R.1/\FQ K H y R.2/\FB 1990 R.1/\FB 1990 R.2/\∀ (wl:Addr) (H1:Hp),Same H H1->Wls K H1 wl R->Q (.ref wl) H1
theorem Zz:FnScope ["room","wide","high"] ["room"] (zD (top 62)):={}
theorem ok_walls_of (D:Df K mg "walls_of" (top 62) ["room"]) (T:Tx K mg C):Fn P w K mg base 1 "walls_of" ["room"] (JV K):=by
 refine D.ok0 Zz (λvs H Q E h=>?_) (λf cdv A outer s H vs Q E hr h=>?_)
 ·obtain ⟨r,x,y,R,rfl,_⟩:=h;rfl
 obtain ⟨r,x,y,R,rfl,hr0,hx,hy,fx,fy,q⟩:=h
 refine ⟨_,(zE (zM (i:=1) Zz.nd rfl (Or.inl rfl) (zH ix_tup (pv 0) zC (λ_ _=>rfl)))
   (zE (zM (i:=2) Zz.nd rfl (Or.inl rfl) (zH ix_tup (pv 0) zC (λ_ _=>rfl)))
   (zF (zL (pe_dictT (YT (u100 hr)) (.cons (zQ (zA (zZ (by rfl) T.k_ACROSS) (zA (zZ (by rfl) T.k_NEAR_WALL) zB))) (zQ (zA (zQ (zA (YR ZE zC) (zA zC zB))) (zA (zr (K:=K) rfl (by rfl) T.k_NOUGHT) (zA (zQ (zA zC (zA zC zB))) (zA (pv 2) (zA (zr (K:=K) rfl (by rfl) T.k_NOUGHT) (zA (zr (K:=K) rfl (by rfl) T.k_NOUGHT) (zA jC zB)))))))) (.cons (zQ (zA (zZ (by rfl) T.k_ACROSS) (zA (zZ (by rfl) T.k_FAR_WALL) zB))) (zQ (zA (pv 1) (zA (zr (K:=K) rfl (by rfl) T.k_NOUGHT) (zA (zQ (zA zC (zA zC zB))) (zA (pv 2) (zA (zr (K:=K) rfl (by rfl) T.k_NOUGHT) (zA (zr (K:=K) rfl (by rfl) T.k_NOUGHT) (zA jC zB)))))))) (.cons (zQ (zA (zZ (by rfl) T.k_ALONG) (zA (zZ (by rfl) T.k_NEAR_WALL) zB))) (zQ (zA (zr (K:=K) rfl (by rfl) T.k_NOUGHT) (zA (zQ (zA (YR ZE zC) (zA zC zB))) (zA (pv 1) (zA (zQ (zA zC (zA zC zB))) (zA (zr (K:=K) rfl (by rfl) T.k_NOUGHT) (zA (zr (K:=K) rfl (by rfl) T.k_NOUGHT) (zA jC zB)))))))) (.cons (zQ (zA (zZ (by rfl) T.k_ALONG) (zA (zZ (by rfl) T.k_FAR_WALL) zB))) (zQ (zA (zr (K:=K) rfl (by rfl) T.k_NOUGHT) (zA (pv 2) (zA (pv 1) (zA (zQ (zA zC (zA zC zB))) (zA (zr (K:=K) rfl (by rfl) T.k_NOUGHT) (zA (zr (K:=K) rfl (by rfl) T.k_NOUGHT) (zA jC zB)))))))) .nil)))) (by simp) (by decide)))))),?_⟩
 try dsimp only [cxK,cxK0]
 refine ⟨_,rfl,r,_,_,_,rfl,rfl,hr0,rfl,?_⟩;refine ⟨_,rfl,r,_,_,_,rfl,rfl,hr0,rfl,?_⟩;intro p0 n0;obtain ⟨H0,q0,s0,e0⟩:=newO n0 (.dT []);rw [q0];clear q0;refine ⟨by show 2<=sizeLine; decide,?_⟩
 intro p1 n1;obtain ⟨H1,q1,s1,e1⟩:=newO n1 (.tup [.int 0,.int (-1)]);rw [q1];clear q1;refine ⟨_,rfl,by show 2<=sizeLine; decide,?_⟩
 intro p2 n2;obtain ⟨H2,q2,s2,e2⟩:=newO n2 (.tup [.int (-1),.int 1]);rw [q2];clear q2;refine λN3_1 g3_1=>?_
 refine ⟨by show 2<=sizeLine; decide,?_⟩
 intro p3 n3;obtain ⟨H3,q3,s3,e3⟩:=newO n3 (.tup [.int 1,.int 1]);rw [q3];clear q3;refine ⟨_,rfl,?_⟩;refine λN4_4 g4_4=>?_
 refine λN4_5 g4_5=>?_
 refine ⟨by show 7<=sizeLine; decide,?_⟩
 intro p4 n4;obtain ⟨H4,q4,s4,e4⟩:=newO n4 (.tup [.ref p2,.ref N3_1,.ref p3,.ref y,.ref N4_4,.ref N4_5,.non]);rw [q4];clear q4;refine ⟨by show 2<=sizeLine; decide,?_⟩
 intro p5 n5;obtain ⟨H5,q5,s5,e5⟩:=newO n5 (.tup [.int 0,.int (-2)]);rw [q5];clear q5;refine ⟨_,rfl,?_⟩;refine λN6_1 g6_1=>?_
 refine ⟨by show 2<=sizeLine; decide,?_⟩
 intro p6 n6;obtain ⟨H6,q6,s6,e6⟩:=newO n6 (.tup [.int 1,.int 1]);rw [q6];clear q6;refine ⟨_,rfl,?_⟩;refine λN7_4 g7_4=>?_
 refine λN7_5 g7_5=>?_
 refine ⟨by show 7<=sizeLine; decide,?_⟩
 intro p7 n7;obtain ⟨H7,q7,s7,e7⟩:=newO n7 (.tup [.ref x,.ref N6_1,.ref p6,.ref y,.ref N7_4,.ref N7_5,.non]);rw [q7];clear q7;refine ⟨by show 2<=sizeLine; decide,?_⟩
 intro p8 n8;obtain ⟨H8,q8,s8,e8⟩:=newO n8 (.tup [.int 1,.int (-1)]);rw [q8];clear q8;refine λN9_0 g9_0=>?_
 refine ⟨_,rfl,by show 2<=sizeLine; decide,?_⟩
 intro p9 n9;obtain ⟨H9,q9,s9,e9⟩:=newO n9 (.tup [.int (-1),.int 1]);rw [q9];clear q9;refine ⟨_,rfl,?_⟩;refine ⟨by show 2<=sizeLine; decide,?_⟩
 intro nE io;obtain ⟨bC,gA,aX,iq⟩:=newO io (.tup [.int 1,.int 1]);rw [gA];clear gA;refine λN11_4 g11_4=>?_
 refine λN11_5 g11_5=>?_
 refine ⟨by show 7<=sizeLine; decide,?_⟩
 intro eD gB;obtain ⟨b6,dW,bJ,gC⟩:=newO gB (.tup [.ref N9_0,.ref p9,.ref x,.ref nE,.ref N11_4,.ref N11_5,.non]);rw [dW];clear dW;refine ⟨by show 2<=sizeLine; decide,?_⟩
 intro pC iu;obtain ⟨dl,dU,ao,dQ⟩:=newO iu (.tup [.int 1,.int (-2)]);rw [dU];clear dU;refine λN13_0 g13_0=>?_
 refine ⟨_,rfl,?_⟩;refine ⟨_,rfl,?_⟩;refine ⟨by show 2<=sizeLine; decide,?_⟩
 intro HG HH;obtain ⟨iQ,gD,aJ,nF⟩:=newO HH (.tup [.int 1,.int 1]);rw [gD];clear gD;refine λN14_4 g14_4=>?_
 refine λN14_5 g14_5=>?_
 refine ⟨by show 7<=sizeLine; decide,?_⟩
 intro iR pD;obtain ⟨cO,gE,bB,iS⟩:=newO pD (.tup [.ref N13_0,.ref y,.ref x,.ref HG,.ref N14_4,.ref N14_5,.non]);rw [gE];clear gE;have Fe:Same cO cO:=λ_ _ h=>h
 have Ff:=bB.trans Fe;have Fg:=aJ.trans Ff;have Fh:=ao.trans Fg;have Fi:=bJ.trans Fh;have t9:=aX.trans Fi;have t8:=s9.trans t9;have t7:=s8.trans t8;have t6:=s7.trans t7;have t5:=s6.trans t6;have t4:=s5.trans t5;have t3:=s4.trans t4;have t2:=s3.trans t3;have t1:=s2.trans t2;have t0:=s1.trans t1;have tx:=s0.trans t0;obtain ⟨sz,wz⟩:=wls_new (K:=K) (R:=R) fx fy n0 tx (t0 _ _ e0) ⟨p4,_,_,_,_,_,_,rfl,SqT.of (t4 _ _ e4),fq_mone (SqT.of (t2 _ _ e2)),yG (g3_1 _),fq_one (SqT.of (t3 _ _ e3)),Kw.Same.tup tx hy,yG (g4_4 _),yG (g4_5 _)⟩ ⟨p7,_,_,_,_,_,_,rfl,SqT.of (t7 _ _ e7),Kw.Same.tup tx hx,yG (g6_1 _),fq_one (SqT.of (t6 _ _ e6)),Kw.Same.tup tx hy,yG (g7_4 _),yG (g7_5 _)⟩ ⟨eD,_,_,_,_,_,_,rfl,SqT.of (Fh _ _ gC),yG (g9_0 _),fq_mone (SqT.of (t9 _ _ e9)),Kw.Same.tup tx hx,fq_one (SqT.of (Fi _ _ iq)),yG (g11_4 _),yG (g11_5 _)⟩ ⟨iR,_,_,_,_,_,_,rfl,SqT.of (Fe _ _ iS),yG (g13_0 _),Kw.Same.tup tx hy,Kw.Same.tup tx hx,fq_one (SqT.of (Ff _ _ nF)),yG (g14_4 _),yG (g14_5 _)⟩;exact ⟨t0 _ _ e0,[(keyW 0 (-1),.ref p4),(keyW 0 (-2),.ref p7),(keyW 1 (-1),.ref eD),(keyW 1 (-2),.ref iR)],⟨⟨p1,rfl,t1 _ _ e1⟩,rfl,⟨p5,rfl,t5 _ _ e5⟩,rfl,⟨p8,rfl,t8 _ _ e8⟩,rfl,⟨pC,rfl,Fg _ _ dQ⟩,rfl,trivial⟩,by show 4<=100; decide,q p0 _ sz wz⟩
noncomputable def Yh (K:Frag):Sp:=λvs H Q _=>∃ (n:Nat),vs=[.int (n:Int)]/\n<=6/\∀ (a:Addr) (xs:List V) (H1:Hp),Same H H1->H a=none->H1 a=some (.lst xs)->Al2 (PrH H1) xs (prsP n)->Q (.ref a) H1
theorem yv:FnScope ["count","pairs","way","one","other"] ["count"] (zD (top 64)):={}
theorem ok_all_pairs (D:Df K mg "all_pairs" (top 64) ["count"]) (T:Tx K mg C):Fn P w K mg base 1 "all_pairs" ["count"] (Yh K):=by
 refine D.ok0 yv (λvs H Q E h=>?_) (λf cdv A outer s H vs Q E hr h=>?_)
 ·obtain ⟨n,rfl,_⟩:=h;rfl
 obtain ⟨n,rfl,hn,q⟩:=h
 refine ⟨_,(zE (zM (i:=1) yv.nd rfl (Or.inl rfl) (yL zB))
   (zE (yH PassesOwn.never rfl (pi_tup (zQ (zA (zZ (by rfl) T.k_ACROSS) (zA (zZ (by rfl) T.k_ALONG) zB)))) (zV (i:=2) yv.nd rfl (Or.inl rfl)) (zF (yH PassesOwn.never rfl (pi_range2 (by rfl) T.b_range (zA (zZ (by rfl) T.k_NEAR_WALL) (zA (pv 0) zB))) (zV (i:=3) yv.nd rfl (Or.inl rfl)) (zF (yH PassesOwn.never rfl (zo (zP op_cat (yL (zA (zZ (by rfl) T.k_FAR_WALL) zB)) (pe_listRange rfl (by rfl) T.b_list (by rfl) T.b_range (zA (pv 0) zB)))) (zV (i:=4) yv.nd rfl (Or.inl rfl)) (zF (zf (Z7 (zR op_ne (pv 3) (pv 4) (zS _)) (jx (jz (zR Y7 (pv 3) zC (zS _)) (yt (zR Y7 (pv 4) zC (zS _)))).pt)).pt (zF (yZ (Ja PySem.F.plainAttrs_list PySem.F.slot_list_append PySem.F.type_list_append jY (pv 1) (zA (zQ (zA (pv 2) (zA (pv 3) (zA (pv 4) zB)))) zB)))) zX)))))))
   (zF (zL (pv 1))))),?_⟩
 try dsimp only [cxK,cxK0]
 refine ⟨by show 0<=sizeLine; decide,?_⟩
 intro p0 n0;obtain ⟨H0,q0,s0,e0⟩:=newO n0 (.lst []);rw [q0];clear q0;refine ⟨by show 2<=sizeLine; decide,?_⟩
 intro p1 n1;obtain ⟨H1,q1,s1,e1⟩:=newO n1 (.tup [.int 0,.int 1]);rw [q1];clear q1;have Fj:=s1 _ _ e0;have st:SqT K H1 p1 [.int 0,.int 1]:=SqT.of e1;have nG:NoT [p0] H1:=NoT.lst Fj NoT.nil;refine ⟨p1,rfl,⟨_,st⟩,for_tup (K:=K) (xs:=[.int 0,.int 1]) (λd σ' H'=>∃ (u2 u3 u4:Option V) (xs:List V) (ps:List Pr),σ'=[some (.int (n:Int)),some (.ref p0),u2,u3,u4]/\But p0 H1 H'/\H' p0=some (.lst xs)/\Al2 (PrH H') xs ps/\ps=(if d=0 then [] else if d=1 then prsD n 0 else prsP n)/\ps.length<=60 * d) ⟨_,_,_,[],[],rfl,But.refl _,Fj,trivial,rfl,Nat.zero_le _⟩ ?_ ?_ ?_⟩
 ·rintro d σ' H2 _ ⟨u2,u3,u4,xs,ps,rfl,b2,cG,fi,eps,lps⟩;exact (Buts.one b2 (by simp)).tup nG st
 ·rintro d x σ' H2 hx ⟨u2,u3,u4,xs,ps,rfl,b2,cG,fi,eps,lps⟩;obtain ⟨hd,rfl⟩:d<=1/\x=.int (d:Int):=by
   match d,hx with
   |0,hx=>cases hx; exact ⟨by decide,rfl⟩
   |1,hx=>cases hx; exact ⟨by decide,rfl⟩
   |d+2,hx=>cases hx
  have iT:ps.length<=60:=by omega
  refine ⟨_,rfl,_,_,rfl,⟨by decide,by decide,by omega,by omega⟩,yX (lo:=-1) (n:=((n:Int) - (-1)).toNat) (λi σ' H'=>∃ (u3 u4:Option V) (xs:List V) (qs:List Pr),σ'=[some (.int (n:Int)),some (.ref p0),some (.int (d:Int)),u3,u4]/\But p0 H2 H'/\H' p0=some (.lst xs)/\Al2 (PrH H') xs qs/\qs=ps++((onesN n).take i).flatMap (prs1 n d)/\qs.length<=ps.length+8 * i) ⟨_,_,xs,ps,rfl,But.refl _,cG,fi,by simp,by omega⟩ ?_ ?_⟩
  ·rintro i σ' H3 hi ⟨u3,u4,xs,qs,rfl,b3,fV,eU,eqs,lqs⟩;have hin:i<=n:=by omega
   refine ⟨by show 1<=sizeLine; decide,?_⟩
   intro p4 n4;obtain ⟨H4,q4,s4,e4⟩:=newO n4 (.lst [.int (-2)]);rw [q4];clear q4;refine ⟨_,rfl,n,rfl,by omega,?_⟩
   intro p5 n5;obtain ⟨H5,q5,s5,e5⟩:=newO n5 (.lst ((List.range n).map λi:Nat=>V.int (i:Int)))
   rw [q5];clear q5;refine ⟨p4,p5,_,_,rfl,rfl,s5 _ _ e4,e5,by rw [List.length_map,List.length_range,sizeLine_eq]; show 1+n<=_; omega,?_⟩
   intro p6 n6;obtain ⟨H6,q6,s6,e6⟩:=newO n6 (.lst ([V.int (-2)]++(List.range n).map λi:Nat=>V.int (i:Int)))
   rw [q6];clear q6;rw [oth_vs] at e6;have fk:=s4.trans (s5.trans s6);have gF:=fk _ _ fV;have HI:p6≠p0:=λz=>by rw [z,(s4.trans s5) _ _ fV] at n6; cases n6
   refine ⟨p6,rfl,⟨_,SqL.of e6⟩,ZO (K:=K) (xs:=(JR n).map V.int) (λk σ' H'=>∃ (u4:Option V) (xs:List V) (rs:List Pr),σ'=[some (.int (n:Int)),some (.ref p0),some (.int (d:Int)),some (.int (-1+(i:Int))),u4]/\But p0 H6 H'/\H' p0=some (.lst xs)/\Al2 (PrH H') xs rs/\rs=qs++(((JR n).take k).filter (okP (-1+(i:Int)))).map (λo=>(d,-1+(i:Int),o))/\rs.length<=qs.length+k) ⟨_,xs,qs,rfl,But.refl _,gF,z8 eU fk,by simp,by omega⟩ ?_ ?_ ?_⟩
   ·rintro k σ' H' _ ⟨u4,xs,rs,rfl,b,hp,_⟩;exact SqL.of (b _ _ HI e6)
   ·rintro k x σ' H7 hx ⟨u4,xs,rs,rfl,b7,eV,dX,ers,lrs⟩;rw [List.getElem?_map] at hx;obtain ⟨o,ho,rfl⟩:=Option.map_eq_some_iff.mp hx;have hk:k < (JR n).length:=(List.getElem?_eq_some_iff.mp ho).1;rw [oth_len] at hk;refine ⟨_,rfl,_,rfl,rfl,_,rfl,?_⟩;refine if_neI (λc1=>?_) (λc1=>?_)
    ·refine ⟨_,rfl,_,_,rfl,rfl,_,rfl,?_⟩;refine zd (λc2=>?_) (λc2=>?_)
     ·refine iteT ?_;refine ⟨_,rfl,.inl ⟨rfl,_,SqL.of eV⟩,_,rfl,_,rfl,_,rfl,by show 3<=sizeLine; decide,?_⟩
      intro p8 n8;obtain ⟨H8,q8,s8,e8⟩:=newO n8 (.tup [.int (d:Int),.int (-1+(i:Int)),.int o]);rw [q8];clear q8;have gG:=s8 _ _ eV;refine ⟨p0,xs,_,rfl,rfl,gG,by rw [Al2.len dX,sizeLine_eq]; omega,?_⟩
      obtain ⟨H9,q9,b9,e9⟩:=newB (H:=H8) (p:=p0) (.lst (xs++[.ref p8]));rw [q9];clear q9;have pE:NoT [p0] H8:=NoT.lst gG NoT.nil;have pF:Buts [p0] H8 H9:=Buts.one b9 (by simp)
      have iU:p8≠p0:=zy e8 gG (by intro z; cases z)
      refine ⟨_,_,rs++[(d,-1+(i:Int),o)],rfl,b7.trans ((But.of s8).trans b9),e9,Al2.snoc (y3 (z8 dX s8) pF pE) ⟨p8,rfl,b9 _ _ iU e8⟩,?_,by rw [List.length_append,List.length_singleton]; omega⟩
      rw [zU ho,List.filter_append,List.map_append,ers,List.append_assoc];rw [show [o].filter (okP (-1+(i:Int)))=[o] by simp [okP]; omega]
      rfl
     ·refine ⟨_,rfl,_,_,rfl,rfl,_,rfl,?_⟩;refine zd (λc3=>?_) (λc3=>?_)
      ·refine ⟨_,rfl,.inl ⟨rfl,_,SqL.of eV⟩,_,rfl,_,rfl,_,rfl,by show 3<=sizeLine; decide,?_⟩
       intro p8 n8;obtain ⟨H8,q8,s8,e8⟩:=newO n8 (.tup [.int (d:Int),.int (-1+(i:Int)),.int o]);rw [q8];clear q8;have gG:=s8 _ _ eV;refine ⟨p0,xs,_,rfl,rfl,gG,by rw [Al2.len dX,sizeLine_eq]; omega,?_⟩
       obtain ⟨H9,q9,b9,e9⟩:=newB (H:=H8) (p:=p0) (.lst (xs++[.ref p8]));rw [q9];clear q9;have pE:NoT [p0] H8:=NoT.lst gG NoT.nil;have pF:Buts [p0] H8 H9:=Buts.one b9 (by simp)
       have iU:p8≠p0:=zy e8 gG (by intro z; cases z)
       refine ⟨_,_,rs++[(d,-1+(i:Int),o)],rfl,b7.trans ((But.of s8).trans b9),e9,Al2.snoc (y3 (z8 dX s8) pF pE) ⟨p8,rfl,b9 _ _ iU e8⟩,?_,by rw [List.length_append,List.length_singleton]; omega⟩
       rw [zU ho,List.filter_append,List.map_append,ers,List.append_assoc];rw [show [o].filter (okP (-1+(i:Int)))=[o] by simp [okP]; omega]
       rfl
      ·refine ⟨_,xs,rs,rfl,b7,eV,dX,?_,by omega⟩
       rw [zU ho,List.filter_append,List.map_append,ers];rw [show [o].filter (okP (-1+(i:Int)))=[] by simp [okP]; omega]
       simp
    ·refine iteF ?_;refine ⟨_,xs,rs,rfl,b7,eV,dX,?_,by omega⟩
     rw [zU ho,List.filter_append,List.map_append,ers];rw [show [o].filter (okP (-1+(i:Int)))=[] by simp [okP]; omega]
     simp
   ·rintro σ' H7 ⟨u4,xs,rs,rfl,b7,eV,dX,ers,lrs⟩;rw [List.length_map,oth_len] at lrs;rw [List.take_of_length_le (by rw [List.length_map]; exact Nat.le_refl _)] at ers
    refine ⟨_,_,xs,rs,rfl,b3.trans ((But.of fk).trans b7),eV,dX,?_,by omega⟩
    rw [zU (ones_at hin),List.flatMap_append,ers,eqs,List.append_assoc];simp only [List.append_cancel_left_eq,List.flatMap_cons,List.flatMap_nil,List.append_nil];exact prs1_eq.symm
  ·rintro σ' H3 ⟨u3,u4,xs,qs,rfl,b3,fV,eU,eqs,lqs⟩;rw [show ((n:Int) - (-1)).toNat=n+1 by omega] at eqs lqs
   rw [List.take_of_length_le (by rw [ones_len]; exact Nat.le_refl _),<- prsD_eq] at eqs
   refine ⟨_,_,_,xs,qs,rfl,b2.trans b3,fV,eU,?_,by omega⟩
   rw [eqs,eps];rcases d01 hd with rfl|rfl
   ·rfl
   ·rfl
 ·rintro σ' H2 ⟨u2,u3,u4,xs,ps,rfl,b2,cG,fi,eps,lps⟩;refine ⟨_,rfl,q p0 xs H2 (λa o ha=>?_) n0 cG ((show ps=prsP n from eps)▸fi)⟩
  have na:a≠p0:=λz=>by rw [z,n0] at ha; cases ha
  exact b2 _ _ na ((s0.trans s1) _ _ ha)
noncomputable def spP_init (K:Frag) (C:Addr):Sp:=λvs H Q _=>∃ (x dx r rx ry l:Addr) (R:Rat × Rat) (xs:List V) (gs:List Bq) (B:Nat),vs=[.ref x,.ref r,.ref l]/\H x=some (.ins C dx [])/\SqT K H r [.ref rx,.ref ry]/\FQ K H rx R.1/\FQ K H ry R.2/\FB 1990 R.1/\FB 1990 R.2/\H l=some (.lst xs)/\Al2 (BqH K 1990 H) xs gs/\gs.length<=6/\CmP B R gs/\B<=1900/\∀ (wl g j:Addr) (H1:Hp),But x H H1->H g=none->H j=none->Zq K H1 C x R gs 0 0 wl g j->Q .non H1
theorem j8:FnScope ["self","room","boxes","pair"] ["self","room","boxes"] (zD (zO (top 65) 0)):={}
theorem ok_Plane___init__ (D:DfM K (C 0) "__init__" "Plane.__init__" (zO (top 65) 0) ["self","room","boxes"]) (T:Tx K mg C) (dw:Fn P w K mg base 1 "walls_of" ["room"] (JV K)) (cT:Fn P w K mg base 1 "all_pairs" ["count"] (Yh K)) (aC:FnM P w K mg base 5 (C 0) "joint_of" ["self","pair"] (ZU K (C 0))) (aq:FnM P w K mg base 6 (C 0) "look_ahead" ["self"] (jf K (C 0))):FnM P w K mg base 7 (C 0) "__init__" ["self","room","boxes"] (spP_init K (C 0)):=by
 refine D.ok0 j8 (λvs H Q E h=>?_) (λf cdv A outer s H vs Q E hr h=>?_)
 ·obtain ⟨x,dx,r,rx,ry,l,R,xs,gs,B,rfl,_⟩:=h;rfl
 obtain ⟨x,dx,r,rx,ry,l,R,xs,gs,B,rfl,hx,hr0,grx,gry,fx,fy,hl,al,l6,cm,hB,k⟩:=h
 refine ⟨_,(zE (jU T.cl_Plane T.n_Plane_walls (pv 0) (zI dw (by decide) hr (by rfl) zG (zA (pv 1) zB)))
   (zE (jU T.cl_Plane T.n_Plane_goings (pv 0) (jZ Yv (by rfl) T.b_list PyProof.Rows.Boot.«list» (zA (pv 2) zB)))
   (zE (jU T.cl_Plane T.n_Plane_now (pv 0) (zr (K:=K) rfl (by rfl) T.k_NOUGHT))
   (zE (jU T.cl_Plane T.n_Plane_gone_through (pv 0) zC)
   (zE (jU T.cl_Plane T.n_Plane_joints (pv 0) pe_dnewT)
   (zE (yH PassesOwn.never rfl (zo (zI cT (by decide) hr (by rfl) zG (zA (zY yI (by rfl) T.b_len PyProof.Rows.Boot.«len» (zA (pv 2) zB)) zB))) (zV (i:=3) j8.nd rfl (Or.inl rfl)) (zF (ps_dput (YT (u100 hr)) (zW T.cl_Plane T.n_Plane_joints (pv 0)) (pv 3) (yb T.cl_Plane aC (by decide) hr zG (pv 0) (zA (pv 3) zB)) rfl)))
   (zF (yZ (YD T.cl_Plane aq (by decide) hr zG (pv 0)))))))))),?_⟩
 try dsimp only [cxK,cxK0]
 have hz:=Al2.len al;refine ⟨_,rfl,r,rx,ry,R,rfl,hr0,grx,gry,fx,fy,λwl H2 s2 Fk=>?_⟩
 refine ⟨_,rfl,x,dx,_,rfl,s2 _ _ hx,by show (0:Nat) < 1000; decide,?_⟩
 obtain ⟨H3,q3,s3,e3⟩:=newB (H:=H2) (p:=x) (.ins (C 0) dx (putF ("walls" : Str) (V.ref wl) []));dsimp only;rw [q3];clear q3;replace e3:H3 x=some (.ins (C 0) dx [("walls",.ref wl)]):=e3;have Fl:=s2 _ _ hx;have nlx:l≠x:=zy hl hx (by intro z; cases z)
 have iV:=s3 _ _ nlx (s2 _ _ hl);refine ⟨_,rfl,l,xs,rfl,.inl (SqL.of iV),?_⟩;intro p4 n4;obtain ⟨H4,q4,s4,e4⟩:=newO n4 (.lst xs);rw [q4];clear q4;have nH:p4≠x:=Ne.symm (zN e3 n4);refine ⟨_,rfl,x,dx,_,rfl,s4 _ _ e3,by show (1:Nat) < 1000; decide,?_⟩
 obtain ⟨H5,q5,s5,e5⟩:=newB (H:=H4) (p:=x) (.ins (C 0) dx (putF ("goings" : Str) (V.ref p4) [("walls",.ref wl)]));dsimp only;rw [q5];clear q5;replace e5:H5 x=some (.ins (C 0) dx [("walls",.ref wl),("goings",.ref p4)]):=e5;refine λN hN=>?_
 refine ⟨_,rfl,x,dx,_,rfl,e5,by show (2:Nat) < 1000; decide,?_⟩
 obtain ⟨H6,q6,s6,e6⟩:=newB (H:=H5) (p:=x) (.ins (C 0) dx (putF ("now" : Str) (V.ref N) [("walls",.ref wl),("goings",.ref p4)]));dsimp only;rw [q6];clear q6;replace e6:H6 x=some (.ins (C 0) dx [("walls",.ref wl),("goings",.ref p4),("now",.ref N)]):=e6;refine ⟨_,rfl,x,dx,_,rfl,e6,by show (3:Nat) < 1000; decide,?_⟩
 obtain ⟨H7,q7,s7,e7⟩:=newB (H:=H6) (p:=x) (.ins (C 0) dx (putF ("gone_through" : Str) (V.int 0) [("walls",.ref wl),("goings",.ref p4),("now",.ref N)]));dsimp only;rw [q7];clear q7;replace e7:H7 x=some (.ins (C 0) dx [("walls",.ref wl),("goings",.ref p4),("now",.ref N),("gone_through",.int 0)]):=e7;intro p8 n8;obtain ⟨H8,q8,s8,e8⟩:=newO n8 (.dT []);rw [q8];clear q8;have iW:p8≠x:=Ne.symm (zN e7 n8);refine ⟨_,rfl,x,dx,_,rfl,s8 _ _ e7,by show (4:Nat) < 1000; decide,?_⟩
 obtain ⟨H9,q9,s9,e9⟩:=newB (H:=H8) (p:=x) (.ins (C 0) dx (putF ("joints" : Str) (V.ref p8) [("walls",.ref wl),("goings",.ref p4),("now",.ref N),("gone_through",.int 0)]));dsimp only;rw [q9];clear q9;replace e9:H9 x=some (.ins (C 0) dx [("walls",.ref wl),("goings",.ref p4),("now",.ref N),("gone_through",.int 0),("joints",.ref p8)]):=e9;have pG:But x H2 H4:=s3.trans (But.of s4);have nI:But x H4 H7:=s5.trans (s6.trans s7);have iF:But x H7 H9:=(But.of s8).trans s9;have pH:But x H2 H9:=pG.trans (nI.trans iF);have iX:Buts [x] H2 H9:=Buts.one pH (by simp)
 have Fm:NoT [x] H2:=NoT.ins Fl NoT.nil;obtain ⟨wkv,hwl⟩:∃ kv,H2 wl=some (.dT kv):=by
  obtain ⟨_,_,_,_,e,_⟩:=Fk;exact ⟨_,e⟩
 have nwx:wl≠x:=zy hwl Fl (by intro z; cases z)
 have pI:=(pG.trans nI) _ _ nwx hwl;have nJ:wl≠p8:=zN pI n8;have Fo:=nI _ _ nH e4;have nK:p4≠p8:=zN Fo n8;have HJ:=iF _ _ nH Fo;have iI:=s9 _ _ iW e8;have ii:=yk (zT al s2) iX Fm;have iH:=pH _ _ nlx (s2 _ _ hl);have HK:NoM [("walls",.ref wl),("goings",.ref p4),("now",.ref N),("gone_through",.int 0),("joints",.ref p8)]:=⟨rfl,rfl,rfl,rfl,rfl,rfl,rfl,rfl,rfl,rfl,rfl,rfl,rfl,rfl,rfl,rfl,rfl⟩;have iJ:PlG K H9 (C 0) x R gs dx [("walls",.ref wl),("goings",.ref p4),("now",.ref N),("gone_through",.int 0),("joints",.ref p8)] wl p4 xs:=⟨e9,rfl,rfl,Fk.buts iX Fm (by simp [nwx]),HJ,ii,HK⟩
 refine ⟨_,rfl,_,_,rfl,.inl ⟨_,SqL.of iH,rfl⟩,xs.length,rfl,by omega,λpa ys bC aX io iq gH=>?_⟩
 rw [hz] at gH;have hzp:=Al2.len gH;have lps:=YK l6;have nd:=zAK l6;have bG:=iJ.same aX;have bP:=aX _ _ iI;have dm:NoT [p8] bC:=NoT.dct bP NoT.nil;have nxa:x≠pa:=zN e9 io;have n8a:p8≠pa:=zN iI io;refine ⟨pa,rfl,⟨_,SqL.of iq⟩,ZO (K:=K) (a:=pa) (xs:=ys) (λi σ' H'=>∃ (u3:Option V) (kv:List (List Key × V)),σ'=[some (.ref x),some (.ref r),some (.ref l),u3]/\But p8 bC H'/\H' p8=some (.dT kv)/\kv.map (·.1)=((prsP gs.length).take i).map keyP/\Al2 (OptB K H') (kv.map (·.2)) (((prsP gs.length).take i).map (jntP R gs))) ⟨_,[],rfl,But.refl _,bP,rfl,trivial⟩ (by rintro _ _ _ _ ⟨_,_,_,g5,_⟩; exact SqL.of (g5 _ _ (Ne.symm n8a) iq)) ?_ ?_⟩
 ·rintro i y σ' b6 hy ⟨u3,kv,rfl,iY,bQ,ks,js⟩;have fu:Buts [p8] bC b6:=Buts.one iY (by simp)
  have hi:i < ys.length:=(List.getElem?_eq_some_iff.mp hy).1;obtain ⟨q,hq,c,rfl,hc⟩:=Al2.get (y3 gH fu dm) hy;have hin:InP gs.length q:=zh.mp (List.mem_of_getElem? hq);have bH:PlG K b6 (C 0) x R gs dx [("walls",.ref wl),("goings",.ref p4),("now",.ref N),("gone_through",.int 0),("joints",.ref p8)] wl p4 xs:=bG.buts fu dm (by simp [Ne.symm iW]) (by simp [nJ]) (by simp [nK])
  refine ⟨_,rfl,x,_,_,rfl,bH.ob,bH.nm.joint_of,_,rfl,x,c,R,gs,dx,_,wl,p4,xs,q,rfl,bH,hc,hin,(cm.far q.1 q.2.1).mono (by omega),λt et=>(cm.jnt et).mono (by omega),λHL dl ao HM=>?_⟩
  have eG:=ao _ _ bQ;have lkv:kv.length<=200:=by
   have z:=congrArg List.length ks;rw [List.length_map,List.length_map,List.length_take] at z;omega
  refine ⟨_,rfl,x,_,_,_,rfl,ao _ _ bH.ob,rfl,_,rfl,p8,_,rfl,DPut.t (k:=keyP q) eG (ao _ _ hc) (Nat.lt_of_le_of_lt lkv (by decide)),?_⟩
  obtain ⟨iQ,gD,aJ,nF⟩:=newB (H:=dl) (p:=p8) (.dT (putK kv (keyP q) HL));dsimp only;rw [gD];clear gD;rw [putK_snoc nd ks hq] at nF;have iZ:NoT [p8] dl:=NoT.dct eG NoT.nil;have i4:Buts [p8] dl iQ:=Buts.one aJ (by simp)
  refine ⟨_,_,rfl,iY.trans ((But.of ao).trans aJ),nF,?_,?_⟩
  ·rw [List.map_append,ks,zU hq,List.map_append];rfl
  ·rw [List.map_append,zU hq,List.map_append];exact Al2.snoc (ya (optb_same js ao) i4 iZ) (HM.buts i4 iZ)
 ·rintro σ' b6 ⟨u3,kv,rfl,iY,bQ,ks,js⟩;rw [hzp,List.take_length] at ks js;have fu:Buts [p8] bC b6:=Buts.one iY (by simp)
  have bH:PlG K b6 (C 0) x R gs dx [("walls",.ref wl),("goings",.ref p4),("now",.ref N),("gone_through",.int 0),("joints",.ref p8)] wl p4 xs:=bG.buts fu dm (by simp [Ne.symm iW]) (by simp [nJ]) (by simp [nK])
  have pJ:PlJ K b6 R gs [("walls",.ref wl),("goings",.ref p4),("now",.ref N),("gone_through",.int 0),("joints",.ref p8)] p8 kv:=⟨rfl,.inl bQ,ks,js⟩;refine ⟨_,rfl,x,_,_,rfl,bH.ob,rfl,x,R,gs,dx,_,wl,p4,xs,p8,kv,N,0,rfl,bH,pJ,bQ,nJ,rfl,yG (hN _),yB.mono (by decide),by show (5:Nat) < 900; decide,l6,λiP ik pB dl ao iu dQ gI pK gJ=>?_⟩
  replace dQ:dl x=some (.ins (C 0) dx (plF wl p4 N ((0:Nat):Int) p8 iP ik)):=dQ;have gK:Buts [x] b6 dl:=Buts.one ao (by simp)
  have dr:NoT [x] b6:=NoT.ins bH.ob NoT.nil;have eG:=ao _ _ iW bQ;have n4:=jG s2 (YB s3 n4 nH);have n8:=jG s2 (YB (pG.trans nI) n8 iW);refine k wl p4 p8 dl (λa o na ha=>?_) n4 n8 ⟨dx,N,iP,ik,xs,kv,pB,⟨dQ,rfl,rfl,bH.ws.buts gK dr (by simp [nwx]),ao _ _ nH bH.hg,yk bH.al gK dr,plF_nm⟩,⟨rfl,.inl eG,ks,ya js gK dr⟩,eG,nJ,yG (hN _),yB.mono (by decide),gI,pK,gJ,λz=>by rw [z,bH.hg] at iu; cases iu⟩
  have HN:a≠p8:=λz=>by rw [z,n8] at ha; cases ha
  exact ao _ _ na (iY _ _ HN (aX _ _ (pH _ _ na (s2 _ _ ha))))
noncomputable def JW (K:Frag) (C:Addr):Sp:=λvs H Q _=>∃ (p:Addr) (R:Rat × Rat) (gs:List Bq) (now:Rat) (n:Nat) (wl g j:Addr) (m:Nat),vs=[.ref p,.int (m:Int)]/\Zq K H C p R gs now n wl g j/\gs.length<=6/\n<=m/\∀ (v:V) (H1:Hp),Same H H1->((v=.non/\n < m/\(∃ t,comP R gs now=some t)/\crwP R gs now=false)\/∃ wd:String,v=.str wd/\RunP R gs now (m - n) wd [] gs now)->Q v H1
theorem sc_end_word:FnScope ["course","most"] ["course","most"] (zD (top 54)):={}
theorem ok_end_word (D:Df K mg "end_word" (top 54) ["course","most"]) (T:Tx K mg C) (ba:FnM P w K mg base 7 (C 0) "is_crowded" ["self"] (Zx K (C 0))):Fn P w K mg base 8 "end_word" ["course","most"] (JW K (C 0)):=by
 refine D.ok0 sc_end_word (λvs H Q E h=>?_) (λf cdv A outer s H vs Q E hr h=>?_)
 ·obtain ⟨p,R,gs,now,n,wl,g,j,m,rfl,_⟩:=h;rfl
 obtain ⟨p,R,gs,now,n,wl,g,j,m,rfl,cr,l6,nm,k⟩:=h
 refine ⟨_,(zE (zf (zR J1 (zW T.cl_Plane T.n_Plane_coming (pv 0)) jC (zS _)) (zF (zL jc)) zX)
   (zE (zf (zR jh (zW T.cl_Plane T.n_Plane_gone_through (pv 0)) (pv 1) (zS _)) (zF (zL jc)) zX)
   (zE (zf (zn (YD T.cl_Plane ba (by decide) hr zG (pv 0)) (λ_=>rfl)) (zF (zL jc)) zX)
   (zF (zL jC))))),?_⟩
 try dsimp only [cxK,cxK0]
 obtain ⟨dx,nw,co,du,xs,kvs,ds,pg,pj,hj,njw,gn,dn,oc,hd,al,ndg⟩:=id cr;refine ⟨_,rfl,p,_,_,_,rfl,pg.ob,rfl,rfl,_,rfl,?_⟩;refine zd (λc=>?_) (λc=>?_)
 ·exact k _ H (Same.refl _) (.inr ⟨"still",rfl,.still (oc.non.mp c)⟩)
 obtain ⟨t,pc,et,rfl,gt,dt⟩:∃ (t:Rat) (pc:Addr),comP R gs now=some t/\co=.ref pc/\FQ K H pc t/\FB 2000 t:=by
  rcases oc with ⟨_,e⟩|⟨t,pc,e,e',g',d'⟩
  ·exact absurd e c
  ·exact ⟨t,pc,e,e',g',d'⟩
 refine ⟨_,rfl,p,_,_,_,rfl,pg.ob,rfl,_,rfl,rfl,_,rfl,?_⟩;refine yr (λc1=>?_) (λc1=>?_)
 ·have e:m - n=0:=by omega
  refine k _ H (Same.refl _) (.inr ⟨"more",rfl,?_⟩);rw [e];exact .more et
 obtain ⟨d,ed⟩:∃ d,m - n=d+1:=⟨m - n - 1,by omega⟩
 refine ⟨_,rfl,p,_,_,rfl,pg.ob,rfl,p,R,gs,dx,_,wl,g,xs,j,kvs,du,ds,dueP R gs now,now,t,pc,rfl,pg,pj,hj,njw,rfl,hd,al,due_few l6,l6,rfl,et,rfl,gt,dt,λH1 s1=>⟨_,rfl,?_⟩⟩
 cases b:crwP R gs now with
 |true=>
  refine iteT ?_;refine k _ H1 s1 (.inr ⟨"crowd",rfl,?_⟩);rw [ed];exact .crowd et b
 |false=>
  refine iteF ?_;exact k _ H1 s1 (.inl ⟨rfl,by omega,⟨t,et⟩,b⟩)
noncomputable def ToldP (K:Frag) (H:Hp) (r:Addr) (wd:String) (ms:List (Rat × Pr)) (es:List Bq) (last:Rat):Prop:=∃ (rr rb rn:Addr) (zs ws:List V),SqT K H r [.str wd,.ref rr,.ref rb,.ref rn]/\H rr=some (.lst zs)/\Al2 (MtP K H) zs ms/\H rb=some (.lst ws)/\Al2 (BqH K 5990 H) ws (es.map (atB last))/\FQ K H rn last/\FB 2000 last
theorem plnat_but {K:Frag} {H H':Hp} {C p:Addr} {R:Rat × Rat} {gs:List Bq} {now:Rat} {n:Nat} {wl g j z:Addr} (h:Zq K H C p R gs now n wl g j) (s:But z H H') (nt:NoT [z] H) (f:∀ a,a=p\/a=wl\/a=g\/a=j->a≠z) (fd:∀ a xs,H a=some (.lst xs)->a=z->False\/True) (nd:∀ dx fs,H p=some (.ins C dx fs)->∀ du,fs.lookup ("due" : Str)=some (.ref du)->du≠z):Zq K H' C p R gs now n wl g j:=by
 obtain ⟨dx,nw,co,du,xs,kvs,ds,pg,pj,hj,njw,gn,dn,oc,hd,al,ndg⟩:=h;have bs:Buts [z] H H':=Buts.one s (by simp)
 have dz:=nd _ _ pg.ob du rfl;have hj':=s _ _ (f j (by simp)) hj
 exact ⟨dx,nw,co,du,xs,kvs,ds,pg.buts bs nt (by simp [f p]) (by simp [f wl]) (by simp [f g]),pj.buts bs nt (.inl hj'),hj',njw,bs.tup nt gn,dn,oc.buts bs nt,s _ _ dz hd,y3 al bs nt,ndg⟩
noncomputable def Y4 (K:Frag) (C:Addr):Sp:=λvs H Q _=>∃ (p:Addr) (R:Rat × Rat) (gs:List Bq) (wl g j:Addr) (m B:Nat),vs=[.ref p,.int (m:Int)]/\Zq K H C p R gs 0 0 wl g j/\gs.length<=6/\WtB gs/\CmP B R gs/\B+90 * m<=1900/\m<=40/\∀ (r:Addr) (wd:String) (ms:List (Rat × Pr)) (es:List Bq) (last:Rat) (H1:Hp),Buts [p,g,j] H H1->RunP R gs 0 m wd ms es last->ToldP K H1 r wd ms es last->Q (.ref r) H1
theorem jX:FnScope ["course","most","run","word"] ["course","most"] (zD (top 55)):={}
theorem ok_run_along (D:Df K mg "run_along" (top 55) ["course","most"]) (T:Tx K mg C) (bR:Fn P w K mg base 8 "end_word" ["course","most"] (JW K (C 0))) (bw:FnM P w K mg base 1 (C 0) "meetings" ["self"] (Ys K (C 0))) (ck:FnM P w K mg base 7 (C 0) "go_on" ["self"] (spP_go_on K (C 0))) (aA:FnM P w K mg base 5 (C 0) "bodies_at" ["self","moment"] (ZA K (C 0))):Fn P w K mg base 9 "run_along" ["course","most"] (Y4 K (C 0)):=by
 refine D.ok0 jX (λvs H Q E h=>?_) (λf cdv A outer s H vs Q E hr h=>?_)
 ·obtain ⟨p,R,gs,wl,g,j,m,B,rfl,_⟩:=h;rfl
 obtain ⟨p,R,gs,wl,g,j,m,B,rfl,cr,l6,hw,cm,hB,m40,k⟩:=h
 refine ⟨_,(zE (zM (i:=2) jX.nd rfl (Or.inl rfl) (yL zB))
   (zE (zM (i:=3) jX.nd rfl (Or.inl rfl) (zI bR (by decide) hr (by rfl) zG (zA (pv 0) (zA (pv 1) zB))))
   (zE (Z2 PassesOwn.never (zR J1 (pv 3) jC (zS _)) (zE (yZ (Ja PySem.F.plainAttrs_list PySem.F.slot_list_extend PySem.F.type_list_extend mt_extend (pv 2) (zA (YD T.cl_Plane bw (by decide) hr zG (pv 0)) zB)))
   (zE (yZ (YD T.cl_Plane ck (by decide) hr zG (pv 0)))
   (zF (zM (i:=3) jX.nd rfl (Or.inl rfl) (zI bR (by decide) hr (by rfl) zG (zA (pv 0) (zA (pv 1) zB))))))))
   (zF (zL (zQ (zA (pv 3) (zA (pv 2) (zA (yb T.cl_Plane aA (by decide) hr zG (pv 0) (zA (zW T.cl_Plane T.n_Plane_now (pv 0)) zB)) (zA (zW T.cl_Plane T.n_Plane_now (pv 0)) zB)))))))))),?_⟩
 try dsimp only [cxK,cxK0]
 refine ⟨by show 0<=sizeLine; decide,?_⟩
 intro p2 n2;obtain ⟨H2,q2,s2,e2⟩:=newO n2 (.lst []);rw [q2];clear q2;have pL:=cr.same s2;have apart:∀ a,a=p\/a=wl\/a=g\/a=j->a≠p2:=λa ha=>by
  obtain ⟨dx,nw,co,du,xs,kvs,ds,pg,pj,hj,_⟩:=id cr;obtain ⟨_,_,_,_,hwl,_⟩:=pg.ws;rcases ha with rfl|rfl|rfl|rfl
  ·exact zN pg.ob n2
  ·exact zN hwl n2
  ·exact zN pg.hg n2
  ·exact zN hj n2
 have apd:∀ dx fs,H2 p=some (.ins (C 0) dx fs)->∀ du,fs.lookup ("due" : Str)=some (.ref du)->du≠p2:=λdx' fs' hp' du' hdu'=>by
  obtain ⟨dx,nw,co,du,xs,kvs,ds,pg,pj,hj,njw,gn,dn,oc,hd,_⟩:=id cr;rw [s2 _ _ pg.ob] at hp';cases hp'
  cases (show some (V.ref du)=some (.ref du') from hdu')
  exact zN hd n2
 refine ⟨_,rfl,_,rfl,p,R,gs,0,0,wl,g,j,m,rfl,pL,l6,Nat.zero_le _,λw3 H3 s3 pM=>?_⟩
 refine ⟨λd σ' H'=>∃ (w4:V) (gk:List Bq) (now:Rat) (n:Nat) (zs:List V) (ms:List (Rat × Pr)),σ'=[some (.ref p),some (.int (m:Int)),some (.ref p2),some w4]/\d=m - n/\n<=m/\Buts [p,g,j,p2] H2 H'/\Zq K H' (C 0) p R gk now n wl g j/\gk.length=gs.length/\WtB gk/\CmP (B+90 * n) R gk/\(∀ dx fs,H' p=some (.ins (C 0) dx fs)->∀ du,fs.lookup ("due" : Str)=some (.ref du)->du≠p2)/\H' p2=some (.lst zs)/\Al2 (MtP K H') zs ms/\ms.length<=6 * n/\(∀ wd ms' es last,RunP R gk now (m - n) wd ms' es last->RunP R gs 0 m wd (ms++ms') es last)/\((w4=.non/\n < m/\(∃ t,comP R gk now=some t)/\crwP R gk now=false)\/∃ wd:String,w4=.str wd/\RunP R gk now (m - n) wd [] gk now),⟨_,w3,gs,0,0,[],[],rfl,rfl,Nat.zero_le _,Buts.of s3,pL.same s3,rfl,hw,cm,?_,s3 _ _ e2,trivial,Nat.zero_le _,λ_ _ _ _ r=>r,pM⟩,?_⟩
 ·intro dx' fs' hp' du' hdu';obtain ⟨dx,nw,co,du,xs,kvs,ds,pg,_⟩:=id pL;have z:=s3 _ _ pg.ob;rw [hp'] at z;cases z
  exact apd _ _ pg.ob du' hdu'
 rintro d σ' H4 ⟨w4,gk,now,n,zs,ms,rfl,rfl,nm,s4,Fp,ln,nz,ny,du4,e4,az,lm,go,alt⟩;obtain ⟨dx,nw,co,du,xs,kvs,ds,pg,pj,hj,njw,gn,dn,oc,hd,al,ndg⟩:=id Fp;refine ⟨_,rfl,rfl,_,rfl,?_⟩;rcases alt with ⟨rfl,nlt,⟨t,et⟩,ncr⟩|⟨wd,rfl,rq⟩
 ·refine zd (λ_=>?_) (λc=>absurd rfl c)
  refine ⟨_,λ_ _ n=>n,?_⟩
  obtain ⟨pc,rfl,gt,dt⟩:∃ (pc:Addr),co=.ref pc/\FQ K H4 pc t/\FB 2000 t:=by
   rcases oc with ⟨e,_⟩|⟨t',pc,e,e',g',d'⟩
   ·rw [et] at e;cases e
   ·rw [et] at e;cases e
    exact ⟨pc,e',g',d'⟩
  have six:(dueP R gk now).length<=6:=Jp (by omega) (by
   have z:=ncr;unfold crwP at z
   exact (Bool.or_eq_false_iff.mp z).1)
  refine ⟨_,rfl,.inl ⟨rfl,_,SqL.of e4⟩,_,rfl,p,_,_,rfl,pg.ob,rfl,p,dx,_,du,ds,dueP R gk now,t,pc,rfl,pg.ob,rfl,hd,al,due_few (by omega),λq hq=>(z7 q hq).1,rfl,gt,dt,λr5 gL H5 s5 n5 e5 bY=>?_⟩
  have em:(dueP R gk now).map (λq=>(t,q))=mtsP R gk now:=by
   unfold mtsP;rw [et];rfl
  rw [em] at bY;have Sg:(mtsP R gk now).length<=6:=by rw [<- em,List.length_map]; exact six
  have lz:=Al2.len az;have Sh:=Al2.len bY;refine ⟨p2,r5,zs,gL,rfl,rfl,s5 _ _ e4,e5,Nat.le_trans (show zs.length+gL.length<=6 * 41+6 by omega) (by decide),?_⟩
  obtain ⟨H6,q6,s6,e6⟩:=newB (H:=H5) (p:=p2) (.lst (zs++gL));dsimp only;rw [q6];clear q6;have iD:=s5 _ _ e4;have HP:Buts [p2] H5 H6:=Buts.one s6 (List.mem_singleton.mpr rfl);have m7:NoT [p2] H5:=NoT.lst iD NoT.nil;have dup:du≠p2:=du4 _ _ pg.ob du rfl
  have Fq:Zq K H6 (C 0) p R gk now n wl g j:=plnat_but (Fp.same s5) s6 m7 apart (λ_ _ _ _=>.inr trivial) (λdx' fs' hp' du' hdu'=>by
   rw [s5 _ _ pg.ob] at hp';cases hp'
   cases (show some (V.ref du)=some (.ref du') from hdu')
   exact dup)
  obtain ⟨Si,nw6,co6,du6,xs6,kvs6,ds6,fo,pj6,HQ,_⟩:=id Fq;refine ⟨_,rfl,p,_,_,rfl,fo.ob,rfl,p,R,gk,now,n,wl,g,j,t,B+90 * n,rfl,Fq,by omega,nz,et,ny,by omega,λH7 s7 pN HR=>?_⟩
  have nr:NoT [p,g,j] H6:=NoT.ins fo.ob (NoT.lst fo.hg (NoT.dct HQ NoT.nil));have e7:=s7 _ _ (by simp [Ne.symm (apart p (by simp)),Ne.symm (apart g (by simp)),Ne.symm (apart j (by simp))]) e6
  have HS:Al2 (MtP K H7) (zs++gL) (ms++mtsP R gk now):=mtp_buts (mtp_buts (al_app (zp az s5) bY) HP m7) s7 nr;have on_ln:(onP R gk now).length=gk.length:=yY _ _;obtain ⟨HU,hw7⟩:=Yf (dueP R gk now) ny nz (λq hq=>z7 q hq)
  refine ⟨_,rfl,_,rfl,p,R,onP R gk now,t,n+1,wl,g,j,m,rfl,pN,by omega,by omega,λw8 H8 s8 pO=>?_⟩
  refine ⟨m - (n+1),by omega,w8,onP R gk now,t,n+1,zs++gL,ms++mtsP R gk now,rfl,rfl,by omega,?_,pN.same s8,by omega,hw7,HU.mono (by omega),?_,s8 _ _ e7,zp HS s8,by rw [List.length_append]; omega,λwd ms' es last r=>?_,pO⟩
  ·exact s4.trans ((Buts.of s5).trans ((Buts.one s6 (by simp)).trans ((s7.mono (by simp)).trans (Buts.of s8))))
  ·intro dx' fs' hp' du' hdu' z;obtain ⟨Sj,nw7,co7,du7,xs7,kvs7,ds7,pg7,pj7,hj7,njw7,gn7,dn7,Fr,hd7,dX,ndg7⟩:=id pN;have y:=s8 _ _ pg7.ob;rw [hp'] at y;cases y
   cases (show some (V.ref du7)=some (.ref du') from hdu')
   rcases HR _ _ pg7.ob _ rfl p2 _ e6 with y|y
   ·exact y z
   ·exact apart p2 (by rcases y with y|y|y<;>simp [y]) rfl
  ·have z:RunP R gk now (m - (n+1)+1) wd (mtsP R gk now++ms') es last:=.step et ncr r;rw [show m - (n+1)+1=m - n by omega] at z
   have z2:=go wd _ es last z;rw [<- List.append_assoc] at z2;exact z2
 ·refine zd (λc=>nomatch c) (λ_=>?_)
  refine ⟨_,rfl,_,rfl,_,rfl,p,_,_,rfl,pg.ob,rfl,_,rfl,p,_,_,_,rfl,pg.ob,rfl,p,nw,dx,g,_,xs,gk,now,rfl,pg.ob,rfl,pg.hg,pg.al,by omega,gn,dn,λr5 gL H5 s5 n5 e5 bY=>?_⟩
  refine ⟨_,rfl,p,_,_,_,rfl,s5 _ _ pg.ob,rfl,by show 4<=sizeLine; decide,?_⟩
  intro p6 n6;obtain ⟨H6,q6,s6,e6⟩:=newO n6 (.tup [.str wd,.ref p2,.ref r5,.ref nw]);rw [q6];clear q6;have fX:=s5.trans s6;have fin:=go wd [] gk now rq;rw [List.append_nil] at fin;refine k p6 wd ms gk now H6 ?_ fin ⟨p2,r5,nw,zs,gL,SqT.of e6,fX _ _ e4,zp az fX,s6 _ _ e5,zT bY s6,Kw.Same.tup fX gn,dn⟩;intro a o na ho;have a2:a≠p2:=zN ho n2;refine fX a o (s4 a o ?_ (s2 a o ho));simp only [List.mem_cons,List.not_mem_nil,or_false,not_or] at na ⊢;exact ⟨na.1,na.2.1,na.2.2,a2⟩
noncomputable def ji (K:Frag):Sp:=λvs H Q _=>∃ (p:Addr) (q:Rat),vs=[.ref p]/\FQ K H p q/\FB 4000 q/\Q (.bl true) H
theorem jo:FnScope ["thing","top","bottom"] ["thing"] (zD (top 12)):={}
theorem ok_is_fraction (D:Df K mg "is_fraction" (top 12) ["thing"]) (T:Tx K mg C) (ak:Fn P w K mg base 1 "is_whole" ["thing"] (JC K)) (ad:Fn P w K mg base 1 "common_divisor" ["one","other"] Ju):Fn P w K mg base 2 "is_fraction" ["thing"] (ji K):=by
 refine D.ok0 jo (λvs H Q E h=>?_) (λf cdv A outer s H vs Q E hr h=>?_)
 ·obtain ⟨p,q,rfl,_⟩:=h;rfl
 obtain ⟨p,q,rfl,hp,dq,k⟩:=h
 refine ⟨_,(zE (zf (jz (yR (zn (zY (Zr (K:=K) rfl) (by rfl) T.b_isinstance PyProof.Rows.Boot.«isinstance» (zA (pv 0) (zA (JM (by rfl) T.b_tuple PyProof.Rows.Boot.«tuple») zB))) (λ_=>rfl))) (yt (zR op_ne (zY yI (by rfl) T.b_len PyProof.Rows.Boot.«len» (zA (pv 0) zB)) zC (zS _)))).pt (zF (zL jL)) zX)
   (zE (zM (i:=1) jo.nd rfl (Or.inl rfl) (zH ix_tup (pv 0) zC (λ_ _=>rfl)))
   (zE (zM (i:=2) jo.nd rfl (Or.inl rfl) (zH ix_tup (pv 0) zC (λ_ _=>rfl)))
   (zE (zf (jz (yR (zn (zI ak (by decide) hr (by rfl) zG (zA (pv 1) zB)) (λ_=>rfl))) (yt (yR (zn (zI ak (by decide) hr (by rfl) zG (zA (pv 2) zB)) (λ_=>rfl))))).pt (zF (zL jL)) zX)
   (zF (zL (yg (ym Y7 (pv 2) zC (zS _)) (yS (ym jh (zI ad (by decide) hr (by rfl) zG (zA (pv 1) (zA (pv 2) zB))) zC (zS _)))))))))),?_⟩
 try dsimp only [cxK,cxK0]
 have hp':SqT K H p [.int q.num,.int ((q.den:Nat):Int)]:=hp;refine ⟨_,rfl,_,_,true,rfl,.inl ⟨_,rfl⟩,.inr ⟨_,_,rfl,hp',Z3⟩,_,rfl,iteF ?_⟩;refine ⟨_,rfl,_,_,rfl,.inr ⟨_,hp',rfl⟩,rfl,_,rfl,iteF ?_⟩;refine ⟨_,rfl,p,_,_,_,rfl,rfl,hp',rfl,_,rfl,p,_,_,_,rfl,rfl,hp',rfl,?_⟩;refine ⟨_,rfl,_,_,true,false,rfl,.int _,yq,yW,_,rfl,iteF ?_⟩;refine ⟨_,rfl,_,_,true,false,rfl,.int _,yq,yW,_,rfl,iteF ?_⟩;refine ⟨_,rfl,_,_,rfl,rfl,_,rfl,?_⟩;have d1:(1:Int)<=((q.den:Nat):Int):=by have:=q.den_pos; omega
 refine zd (λ_=>?_) (λc=>absurd d1 c)
 refine ⟨_,rfl,_,rfl,q.num,((q.den:Nat):Int),rfl,dq.2,rfl,?_⟩;have g1:Int.gcd q.num ((q.den:Nat):Int)=1:=q.reduced;rw [g1];exact k
noncomputable def j9 (K:Frag):Sp:=λvs H Q _=>∃ (p:Addr) (q:Rat),vs=[.ref p]/\FQ K H p q/\FB 1990 q/\0 < q/\∀ (H1:Hp),Same H H1->Q (.bl true) H1
theorem sc_is_breadth:FnScope ["thing"] ["thing"] (zD (top 36)):={}
theorem ok_is_breadth (D:Df K mg "is_breadth" (top 36) ["thing"]) (T:Tx K mg C) (aL:Fn P w K mg base 2 "is_fraction" ["thing"] (ji K)) (aD:Fn P w K mg base 1 "under" ["one","other"] (Zt K)):Fn P w K mg base 3 "is_breadth" ["thing"] (j9 K):=by
 refine D.ok0 sc_is_breadth (λvs H Q E h=>?_) (λf cdv A outer s H vs Q E hr h=>?_)
 ·obtain ⟨p,q,rfl,_⟩:=h;rfl
 obtain ⟨p,q,rfl,hp,dq,q0,k⟩:=h;refine ⟨_,(zF (zL (yg (zI aL (by decide) hr (by rfl) zG (zA (pv 0) zB)) (yS (zI aD (by decide) hr (by rfl) zG (zA (zr (K:=K) rfl (by rfl) T.k_NOUGHT) (zA (pv 0) zB))))))),?_⟩
 try dsimp only [cxK,cxK0]
 refine ⟨_,rfl,p,q,rfl,hp,dq.mono (by decide),_,rfl,iteT λN hN=>?_⟩
 refine ⟨_,rfl,N,0,p,q,rfl,yG (hN _),yB.mono (by decide),hp,dq.mono (by decide),λH1 s1=>?_⟩
 have z:=k H1 s1;rw [<- decide_eq_true q0] at z;exact z
noncomputable def Yn (K:Frag):Sp:=λvs H Q _=>∃ (m:Int),vs=[.int m]/\1<=m/\m<=1000/\Q (.bl true) H
theorem sc_is_weight:FnScope ["thing"] ["thing"] (zD (top 30)):={}
theorem ok_is_weight (D:Df K mg "is_weight" (top 30) ["thing"]) (T:Tx K mg C) (ak:Fn P w K mg base 1 "is_whole" ["thing"] (JC K)):Fn P w K mg base 2 "is_weight" ["thing"] (Yn K):=by
 refine D.ok0 sc_is_weight (λvs H Q E h=>?_) (λf cdv A outer s H vs Q E hr h=>?_)
 ·obtain ⟨m,rfl,_⟩:=h;rfl
 obtain ⟨m,rfl,m1,m2,k⟩:=h;refine ⟨_,(zF (zL (yg (zI ak (by decide) hr (by rfl) zG (zA (pv 0) zB)) (yS (pe_chain J4 J4 zC (pv 0) (zZ (by rfl) T.k_MOST_WEIGHT)))))),?_⟩
 try dsimp only [cxK,cxK0]
 refine ⟨_,rfl,_,_,true,false,rfl,.int m,yq,yW,_,rfl,iteT ?_⟩;refine ⟨_,rfl,_,_,rfl,rfl,_,rfl,?_⟩;refine zd (λ_=>?_) (λc=>absurd m1 c)
 have z:=k;rw [<- decide_eq_true m2] at z;exact ⟨_,_,rfl,rfl,z⟩
noncomputable def sp_is_box (K:Frag):Sp:=λvs H Q _=>∃ (z:V) (b:Bq),vs=[z]/\BqH K 1990 H z b/\0 < b.w/\0 < b.h/\(∃ m,b.m=some m)/\∀ (H1:Hp),Same H H1->Q (.bl true) H1
theorem sc_is_box:FnScope ["thing"] ["thing"] (zD (top 37)):={}
theorem ok_is_box (D:Df K mg "is_box" (top 37) ["thing"]) (T:Tx K mg C) (aL:Fn P w K mg base 2 "is_fraction" ["thing"] (ji K)) (aB:Fn P w K mg base 3 "is_breadth" ["thing"] (j9 K)) (cU:Fn P w K mg base 2 "is_weight" ["thing"] (Yn K)):Fn P w K mg base 4 "is_box" ["thing"] (sp_is_box K):=by
 refine D.ok0 sc_is_box (λvs H Q E h=>?_) (λf cdv A outer s H vs Q E hr h=>?_)
 ·obtain ⟨z,b,rfl,_⟩:=h;rfl
 obtain ⟨z,b,rfl,⟨p,a0,a1,a2,a3,a4,a5,rfl,hp,⟨g0,g1,g2,g3,g4,g5⟩,⟨d0,d1,d2,d3,d4,d5⟩,wt⟩,w0,h0,⟨m,em⟩,k⟩:=h
 refine ⟨_,(zE (zf (jz (yR (zn (zY (Zr (K:=K) rfl) (by rfl) T.b_isinstance PyProof.Rows.Boot.«isinstance» (zA (pv 0) (zA (JM (by rfl) T.b_tuple PyProof.Rows.Boot.«tuple») zB))) (λ_=>rfl))) (yt (zR op_ne (zY yI (by rfl) T.b_len PyProof.Rows.Boot.«len» (zA (pv 0) zB)) zC (zS _)))).pt (zF (zL jL)) zX)
   (zE (zf (yR (zn (zY (call_all (K:=K) rfl rfl) (by rfl) T.b_all PyProof.Rows.Boot.«all» (zA (@Zh _ _ _ _ _ _ _ _ _ _ ["thing"] [0] rfl (pi_tup (zQ (zA zC (zA zC (zA zC (zA zC zB)))))) rfl (by decide) rfl (by decide) rfl (by decide) (jA (j:=0) rfl rfl rfl rfl (.inl rfl)) (λy c h=>h) (ja rfl) (λC z Hc fp=>(zI aL (by decide) hr (by rfl) zG (zA (zH (ixT (K:=K) rfl) (pv 1) (pv 0) (λ_ _=>rfl)) zB))) (λ_=>rfl)) zB)) (λ_=>rfl))) (zF (zL jL)) zX)
   (zF (zL (yg (zI aB (by decide) hr (by rfl) zG (zA (zH ix_tup (pv 0) zC (λ_ _=>rfl)) zB)) (yg (zI aB (by decide) hr (by rfl) zG (zA (zH ix_tup (pv 0) zC (λ_ _=>rfl)) zB)) (yS (zI cU (by decide) hr (by rfl) zG (zA (zH ix_tup (pv 0) zC (λ_ _=>rfl)) zB))))))))),?_⟩
 try dsimp only [cxK,cxK0]
 obtain ⟨m1,m2⟩:=wt m em;rw [em] at hp;refine ⟨_,rfl,_,_,true,rfl,.inl ⟨_,rfl⟩,.inr ⟨_,_,rfl,hp,Z3⟩,_,rfl,iteF ?_⟩;refine ⟨_,rfl,_,_,rfl,.inr ⟨_,hp,rfl⟩,rfl,_,rfl,iteF ?_⟩;refine ⟨by show 4<=sizeLine; decide,?_⟩
 intro p1 n1;obtain ⟨H1,q1,s1,e1⟩:=newO n1 (.tup [.int 0,.int 1,.int 4,.int 5]);rw [q1];clear q1;have cP:=Kw.Same.tup s1 hp;refine ⟨p1,rfl,⟨_,SqT.of e1⟩,lc_tup (K:=K) (xs:=[.int 0,.int 1,.int 4,.int 5]) (λi ys H'=>H1=H'/\ys=([true,true,true,true].take i).map V.bl/\i<=4) ⟨rfl,rfl,by omega⟩ (by rw [sizeLine_eq]; simp) (λi ys H' ⟨_,e,l⟩=>by rw [e]; simp; omega) (λi ys H' ⟨e,_⟩=>by rw [<- e]; exact SqT.of e1) ?_ ?_⟩
 ·rintro i y ys H' Q' hy ⟨rfl,rfl,li⟩ k
  match i,hy with
  |0,hy=>cases hy; exact ⟨_,rfl,_,rfl,p,_,_,_,rfl,rfl,cP,rfl,_,_,rfl,Kw.Same.tup s1 g0,d0.mono (by decide),k _ _ ⟨rfl,rfl,by omega⟩⟩
  |1,hy=>cases hy; exact ⟨_,rfl,_,rfl,p,_,_,_,rfl,rfl,cP,rfl,_,_,rfl,Kw.Same.tup s1 g1,d1.mono (by decide),k _ _ ⟨rfl,rfl,by omega⟩⟩
  |2,hy=>cases hy; exact ⟨_,rfl,_,rfl,p,_,_,_,rfl,rfl,cP,rfl,_,_,rfl,Kw.Same.tup s1 g4,d4.mono (by decide),k _ _ ⟨rfl,rfl,by omega⟩⟩
  |3,hy=>cases hy; exact ⟨_,rfl,_,rfl,p,_,_,_,rfl,rfl,cP,rfl,_,_,rfl,Kw.Same.tup s1 g5,d5.mono (by decide),k _ _ ⟨rfl,rfl,by omega⟩⟩
 ·rintro ys H' ⟨rfl,ey,_⟩;replace ey:ys=[true,true,true,true].map V.bl:=ey;subst ey;intro p5 n5;obtain ⟨H5,q5,s5,e5⟩:=newO n5 (.lst ([true,true,true,true].map V.bl));rw [q5];clear q5;have ej:=s1.trans s5;refine ⟨p5,[true,true,true,true],rfl,SqL.of e5,_,rfl,iteF ?_⟩;have iD:=Kw.Same.tup ej hp;refine ⟨_,rfl,p,_,_,_,rfl,rfl,iD,rfl,_,_,rfl,Kw.Same.tup ej g2,d2,w0,λH6 s6=>⟨_,rfl,iteT ?_⟩⟩
  have iw:=ej.trans s6;have gF:=Kw.Same.tup iw hp;refine ⟨_,rfl,p,_,_,_,rfl,rfl,gF,rfl,_,_,rfl,Kw.Same.tup iw g3,d3,h0,λH7 s7=>⟨_,rfl,iteT ?_⟩⟩
  have dg:=iw.trans s7;have eV:=Kw.Same.tup dg hp;exact ⟨_,rfl,p,_,_,_,rfl,rfl,eV,rfl,m,rfl,m1,m2,k _ dg⟩
noncomputable def zAA (K:Frag):Sp:=λvs H Q _=>∃ (r x y:Addr) (R:Rat × Rat),vs=[.ref r]/\SqT K H r [.ref x,.ref y]/\FQ K H x R.1/\FQ K H y R.2/\FB 1990 R.1/\FB 1990 R.2/\0 < R.1/\0 < R.2/\∀ (H1:Hp),Same H H1->Q (.bl true) H1
theorem sc_is_room:FnScope ["thing"] ["thing"] (zD (top 38)):={}
theorem ok_is_room (D:Df K mg "is_room" (top 38) ["thing"]) (T:Tx K mg C) (aB:Fn P w K mg base 3 "is_breadth" ["thing"] (j9 K)):Fn P w K mg base 4 "is_room" ["thing"] (zAA K):=by
 refine D.ok0 sc_is_room (λvs H Q E h=>?_) (λf cdv A outer s H vs Q E hr h=>?_)
 ·obtain ⟨r,x,y,R,rfl,_⟩:=h;rfl
 obtain ⟨r,x,y,R,rfl,hr0,gx,gy,fx,fy,x0,y0,k⟩:=h;refine ⟨_,(zF (zL (yg (zY (Zr (K:=K) rfl) (by rfl) T.b_isinstance PyProof.Rows.Boot.«isinstance» (zA (pv 0) (zA (JM (by rfl) T.b_tuple PyProof.Rows.Boot.«tuple») zB))) (yg (ym jh (zY yI (by rfl) T.b_len PyProof.Rows.Boot.«len» (zA (pv 0) zB)) zC (zS _)) (yg (zI aB (by decide) hr (by rfl) zG (zA (zH ix_tup (pv 0) zC (λ_ _=>rfl)) zB)) (yS (zI aB (by decide) hr (by rfl) zG (zA (zH ix_tup (pv 0) zC (λ_ _=>rfl)) zB)))))))),?_⟩
 try dsimp only [cxK,cxK0]
 refine ⟨_,rfl,_,_,true,rfl,.inl ⟨_,rfl⟩,.inr ⟨_,_,rfl,hr0,Z3⟩,_,rfl,iteT ?_⟩;refine ⟨_,rfl,_,_,rfl,.inr ⟨_,hr0,rfl⟩,rfl,_,rfl,iteT ?_⟩;refine ⟨_,rfl,r,_,_,_,rfl,rfl,hr0,rfl,x,R.1,rfl,gx,fx,x0,λH1 s1=>⟨_,rfl,iteT ?_⟩⟩
 have dO:=Kw.Same.tup s1 hr0;exact ⟨_,rfl,r,_,_,_,rfl,rfl,dO,rfl,y,R.2,rfl,Kw.Same.tup s1 gy,fy,y0,λH2 s2=>k H2 (s1.trans s2)⟩
noncomputable def Ym (K:Frag):Sp:=λvs H Q _=>∃ (z:V) (b:Bq) (r x y:Addr) (R:Rat × Rat),vs=[z,.ref r]/\BqH K 1990 H z b/\SqT K H r [.ref x,.ref y]/\FQ K H x R.1/\FQ K H y R.2/\FB 1990 R.1/\FB 1990 R.2/\InR R b/\∀ (H1:Hp),Same H H1->Q (.bl true) H1
theorem Yq:FnScope ["box","room","way"] ["box","room"] (zD (top 40)):={}
theorem ok_is_within (D:Df K mg "is_within" (top 40) ["box","room"]) (T:Tx K mg C) (aD:Fn P w K mg base 1 "under" ["one","other"] (Zt K)) (am:Fn P w K mg base 3 "far_side" ["box","way"] (jK K)):Fn P w K mg base 4 "is_within" ["box","room"] (Ym K):=by
 refine D.ok0 Yq (λvs H Q E h=>?_) (λf cdv A outer s H vs Q E hr h=>?_)
 ·obtain ⟨z,b,r,x,y,R,rfl,_⟩:=h;rfl
 obtain ⟨z,b,r,x,y,R,rfl,hz,hr0,gx,gy,fx,fy,ir,k⟩:=h
 refine ⟨_,(zE (yH PassesOwn.never rfl (pi_tup (zQ (zA (zZ (by rfl) T.k_ACROSS) (zA (zZ (by rfl) T.k_ALONG) zB)))) (zV (i:=2) Yq.nd rfl (Or.inl rfl)) (zF (zf (jz (zn (zI aD (by decide) hr (by rfl) zG (zA (zH ix_tup (pv 0) (pv 2) (λ_ _=>rfl)) (zA (zr (K:=K) rfl (by rfl) T.k_NOUGHT) zB))) (λ_=>rfl)) (yt (zn (zI aD (by decide) hr (by rfl) zG (zA (zH ix_tup (pv 1) (pv 2) (λ_ _=>rfl)) (zA (zI am (by decide) hr (by rfl) zG (zA (pv 0) (zA (pv 2) zB))) zB))) (λ_=>rfl)))).pt (zF (zL jL)) zX)))
   (zF (zL jL))),?_⟩
 try dsimp only [cxK,cxK0]
 obtain ⟨p,a0,a1,a2,a3,a4,a5,rfl,hp,⟨g0,g1,g2,g3,g4,g5⟩,⟨d0,d1,d2,d3,d4,d5⟩,wt⟩:=id hz;refine ⟨by show 2<=sizeLine; decide,?_⟩
 intro p1 n1;obtain ⟨H1,q1,s1,e1⟩:=newO n1 (.tup [.int 0,.int 1]);rw [q1];clear q1;refine ⟨p1,rfl,⟨_,SqT.of e1⟩,for_tup (K:=K) (xs:=[.int 0,.int 1]) (λd σ' H'=>∃ (u2:Option V),σ'=[some (.ref p),some (.ref r),u2]/\Same H1 H') ⟨_,rfl,Same.refl _⟩ ?_ ?_ ?_⟩
 ·rintro d σ' H2 _ ⟨u2,rfl,s2⟩;exact Kw.Same.tup s2 (SqT.of e1)
 ·rintro d y0 σ' H2 hx ⟨u2,rfl,s2⟩;have eI:=s1.trans s2;have cG:=Kw.Same.tup eI hp;have Sk:=Kw.Same.tup eI hr0
  match d,hx with
  |0,hx=>
   cases hx
   refine ⟨_,rfl,_,rfl,p,_,_,_,rfl,rfl,cG,rfl,λN hN=>?_⟩
   refine ⟨_,b.x,N,0,rfl,Kw.Same.tup eI g0,d0.mono (by decide),yG (hN _),yB.mono (by decide),λH3 s3=>⟨_,rfl,?_⟩⟩
   refine zd (λc=>absurd c (Y0 ir.2.2.1)) (λ_=>?_)
   have bZ:=eI.trans s3;have fW:=Kw.Same.tup bZ hr0;refine ⟨_,rfl,_,rfl,r,_,_,_,rfl,rfl,fW,rfl,_,rfl,_,rfl,_,b,0,rfl,(hz.same bZ).mono (by decide),by decide,λr4 H4 s4 pP f4=>?_⟩
   refine ⟨_,R.1,r4,_,rfl,Kw.Same.tup (bZ.trans s4) gx,fx.mono (by decide),pP,f4.mono (by decide),λH5 s5=>⟨_,rfl,?_⟩⟩
   refine zd (λc=>absurd c (Y0 ir.2.2.2.2.1)) (λ_=>?_)
   exact ⟨_,rfl,s2.trans (s3.trans (s4.trans s5))⟩
  |1,hx=>
   cases hx
   refine ⟨_,rfl,_,rfl,p,_,_,_,rfl,rfl,cG,rfl,λN hN=>?_⟩
   refine ⟨_,b.y,N,0,rfl,Kw.Same.tup eI g1,d1.mono (by decide),yG (hN _),yB.mono (by decide),λH3 s3=>⟨_,rfl,?_⟩⟩
   refine zd (λc=>absurd c (Y0 ir.2.2.2.1)) (λ_=>?_)
   have bZ:=eI.trans s3;have fW:=Kw.Same.tup bZ hr0;refine ⟨_,rfl,_,rfl,r,_,_,_,rfl,rfl,fW,rfl,_,rfl,_,rfl,_,b,1,rfl,(hz.same bZ).mono (by decide),by decide,λr4 H4 s4 pP f4=>?_⟩
   refine ⟨_,R.2,r4,_,rfl,Kw.Same.tup (bZ.trans s4) gy,fy.mono (by decide),pP,f4.mono (by decide),λH5 s5=>⟨_,rfl,?_⟩⟩
   refine zd (λc=>absurd c (Y0 ir.2.2.2.2.2)) (λ_=>?_)
   exact ⟨_,rfl,s2.trans (s3.trans (s4.trans s5))⟩
 ·rintro σ' H2 ⟨u2,rfl,s2⟩;exact k H2 (s1.trans s2)
noncomputable def zAN (K:Frag):Sp:=λvs H Q _=>∃ (z y:V) (a b:Bq),vs=[z,y]/\BqH K 5990 H z a/\BqH K 5990 H y b/\∀ (H1:Hp),Same H H1->Q (.bl (hicB a b 0 && hicB a b 1)) H1
theorem sc_overlap:FnScope ["one","other"] ["one","other"] (zD (top 42)):={}
theorem ok_overlap (D:Df K mg "overlap" (top 42) ["one","other"]) (T:Tx K mg C) (ag:Fn P w K mg base 4 "have_in_common" ["one","other","way"] (yQ K)):Fn P w K mg base 5 "overlap" ["one","other"] (zAN K):=by
 refine D.ok0 sc_overlap (λvs H Q E h=>?_) (λf cdv A outer s H vs Q E hr h=>?_)
 ·obtain ⟨z,y,a,b,rfl,_⟩:=h;rfl
 obtain ⟨z,y,a,b,rfl,hz,hy,k⟩:=h;refine ⟨_,(zF (zL (yg (zI ag (by decide) hr (by rfl) zG (zA (pv 0) (zA (pv 1) (zA (zZ (by rfl) T.k_ACROSS) zB)))) (yS (zI ag (by decide) hr (by rfl) zG (zA (pv 0) (zA (pv 1) (zA (zZ (by rfl) T.k_ALONG) zB)))))))),?_⟩
 try dsimp only [cxK,cxK0]
 refine ⟨_,rfl,_,rfl,_,_,a,b,0,rfl,hz,hy,by decide,λH1 s1=>⟨_,rfl,?_⟩⟩
 cases c:hicB a b 0 with
 |true=>
  refine iteT ⟨_,rfl,_,rfl,_,_,a,b,1,rfl,hz.same s1,hy.same s1,by decide,λH2 s2=>?_⟩
  have w:=k H2 (s1.trans s2);rw [c,Bool.true_and] at w;exact w
 |false=>
  have w:=k H1 s1;rw [c,Bool.false_and] at w;exact iteF w
noncomputable def Zo (K:Frag):Sp:=λvs H Q _=>∃ (r x y l:Addr) (R:Rat × Rat) (xs:List V) (gs:List Bq),vs=[.ref r,.ref l]/\SqT K H r [.ref x,.ref y]/\FQ K H x R.1/\FQ K H y R.2/\FB 1990 R.1/\FB 1990 R.2/\H l=some (.lst xs)/\Al2 (BqH K 1990 H) xs gs/\GdP R gs/\∀ (H1:Hp),Same H H1->Q .non H1
theorem jQ:FnScope ["room","boxes","one","other"] ["room","boxes"] (zD (top 61)):={}
theorem ok_refuse_boxes (D:Df K mg "refuse_boxes" (top 61) ["room","boxes"]) (T:Tx K mg C) (dY:Fn P w K mg base 4 "is_room" ["thing"] (zAA K)) (eJ:Fn P w K mg base 4 "is_box" ["thing"] (sp_is_box K)) (cV:Fn P w K mg base 4 "is_within" ["box","room"] (Ym K)) (dZ:Fn P w K mg base 5 "overlap" ["one","other"] (zAN K)):Fn P w K mg base 6 "refuse_boxes" ["room","boxes"] (Zo K):=by
 refine D.ok0 jQ (λvs H Q E h=>?_) (λf cdv A outer s H vs Q E hr h=>?_)
 ·obtain ⟨r,x,y,l,R,xs,gs,rfl,_⟩:=h;rfl
 obtain ⟨r,x,y,l,R,xs,gs,rfl,hr0,gx,gy,fx,fy,hl,al,gd,k⟩:=h
 refine ⟨_,(zE (zf (yR (zn (zI dY (by decide) hr (by rfl) zG (zA (pv 0) zB)) (λ_=>rfl))) (zF jO) zX)
   (zE (zf (jz (yR (zn (zY jv (by rfl) T.b_isinstance PyProof.Rows.Boot.«isinstance» (zA (pv 1) (zA (JM (by rfl) T.b_list PyProof.Rows.Boot.«list») zB))) (λ_=>rfl))) (yt (yR (pt_chain J4 J4 zC (zY yI (by rfl) T.b_len PyProof.Rows.Boot.«len» (zA (pv 1) zB)) (zZ (by rfl) T.k_MOST_BOXES))))).pt (zF jO) zX)
   (zE (zf (yR (zn (zY (call_all (K:=K) rfl rfl) (by rfl) T.b_all PyProof.Rows.Boot.«all» (zA (@Zh _ _ _ _ _ _ _ _ _ _ ["room"] [0] rfl (zo (pv 1)) rfl (by decide) rfl (by decide) rfl (by decide) (jA (j:=0) rfl rfl rfl rfl (.inl rfl)) (λy c h=>h) (ja rfl) (λC z Hc fp=>(yg (zI eJ (by decide) hr (by rfl) zG (zA (pv 0) zB)) (yS (zI cV (by decide) hr (by rfl) zG (zA (pv 0) (zA (pv 1) zB)))))) (λ_=>rfl)) zB)) (λ_=>rfl))) (zF jO) zX)
   (zF (yH PassesOwn.never rfl (jF (by rfl) T.b_range (zA (zY yI (by rfl) T.b_len PyProof.Rows.Boot.«len» (zA (pv 1) zB)) zB)) (zV (i:=2) jQ.nd rfl (Or.inl rfl)) (zF (yH PassesOwn.never rfl (pi_range2 (by rfl) T.b_range (zA (zP zt (pv 2) zC) (zA (zY yI (by rfl) T.b_len PyProof.Rows.Boot.«len» (zA (pv 1) zB)) zB))) (zV (i:=3) jQ.nd rfl (Or.inl rfl)) (zF (zf (zn (zI dZ (by decide) hr (by rfl) zG (zA (zH ix_list (pv 1) (pv 2) (λ_ _=>rfl)) (zA (zH ix_list (pv 1) (pv 3) (λ_ _=>rfl)) zB))) (λ_=>rfl)) (zF jO) zX))))))))),?_⟩
 try dsimp only [cxK,cxK0]
 have hz:=Al2.len al;have l1:=gd.l1;have l6:=gd.l6;refine ⟨_,rfl,r,x,y,R,rfl,hr0,gx,gy,fx,fy,gd.r1,gd.r2,λH1 s1=>⟨_,rfl,iteF ?_⟩⟩
 have eW:=s1 _ _ hl;refine ⟨_,rfl,_,_,true,rfl,.inl ⟨_,rfl⟩,⟨_,.lst eW,kit_lst_lst⟩,_,rfl,iteF ?_⟩;refine ⟨_,rfl,_,_,rfl,.inl ⟨_,SqL.of eW,rfl⟩,_,_,rfl,rfl,?_⟩;refine ⟨_,rfl,?_⟩;refine zd (λ_=>?_) (λc=>absurd (show (1:Int)<=((xs.length:Nat):Int) by omega) c)
 refine ⟨_,_,rfl,rfl,_,rfl,?_⟩;refine Zb (λc=>absurd (show ((xs.length:Nat):Int)<=6 by omega) c) (λ_=>?_)
 refine ⟨_,rfl,l,rfl,⟨_,SqL.of eW⟩,jJ (K:=K) (xs:=xs) (λi ys H'=>i<=xs.length/\Same H1 H'/\ys=(List.replicate i true).map V.bl) ⟨Nat.zero_le _,Same.refl _,rfl⟩ (by rw [hz]; exact Nat.le_trans l6 (by decide)) (λi ys H2 z=>by obtain ⟨_,_,e⟩:=z; rw [e]; simp) (λi ys H2 z=>by obtain ⟨_,g,_⟩:=z; exact SqL.of (g _ _ eW)) ?_ ?_⟩
 ·rintro i vb ys H2 Q1 hx ⟨hi,s2,rfl⟩ kq;have hi:i < xs.length:=(List.getElem?_eq_some_iff.mp hx).1;have eI:=s1.trans s2;obtain ⟨b,hb,hq⟩:=Al2.get (zT al eI) hx;have hm:=List.mem_of_getElem? hb;have ir:=gd.al b hm;obtain ⟨m,em,_⟩:=gd.wt b hm;refine ⟨_,rfl,vb,b,rfl,hq,ir.1,ir.2.1,⟨m,em⟩,λH3 s3=>⟨_,rfl,iteT ?_⟩⟩
  have bZ:=eI.trans s3;refine ⟨_,rfl,_,rfl,vb,b,r,x,y,R,rfl,hq.same s3,Kw.Same.tup bZ hr0,Kw.Same.tup bZ gx,Kw.Same.tup bZ gy,fx,fy,ir,λH4 s4=>?_⟩
  refine kq _ _ ⟨hi,s2.trans (s3.trans s4),?_⟩;rw [List.replicate_succ',List.map_append];rfl
 rintro ys H2 ⟨_,s2,rfl⟩ p5 n5;obtain ⟨H3,q3,s3,e3⟩:=newO n5 (.lst ((List.replicate xs.length true).map V.bl));rw [q3];clear q3;have ea:(List.replicate xs.length true).all id=true:=by simp
 refine ⟨p5,List.replicate xs.length true,rfl,SqL.of e3,_,rfl,?_⟩;rw [ea];refine iteF ?_;have bZ:=s1.trans (s2.trans s3);have iV:=bZ _ _ hl;refine ⟨_,rfl,_,_,rfl,.inl ⟨_,SqL.of iV,rfl⟩,_,rfl,by omega,by omega,yX (n:=((xs.length:Nat):Int).toNat) (λi σ1 H'=>∃ (u2 u3:Option V),σ1=[some (.ref r),some (.ref l),u2,u3]/\Same H3 H') ⟨_,_,rfl,Same.refl _⟩ ?_ ?_⟩
 ·rintro i σ1 H4 hi ⟨u2,u3,rfl,s4⟩;have HV:=s4 _ _ iV;obtain ⟨vi,hvi⟩:∃ y,xs[i]?=some y:=⟨_,List.getElem?_eq_getElem (by omega)⟩
  refine ⟨_,rfl,_,_,rfl,rfl,_,rfl,_,_,rfl,.inl ⟨_,SqL.of HV,rfl⟩,_,_,rfl,⟨by omega,by omega,by omega,by omega⟩,yX (lo:=0+(i:Int)+1) (n:=(((xs.length:Nat):Int) - (0+(i:Int)+1)).toNat) (λj σ1 H'=>∃ (u3:Option V),σ1=[some (.ref r),some (.ref l),some (.int (0+(i:Int))),u3]/\Same H3 H') ⟨_,rfl,s4⟩ ?_ ?_⟩
  ·rintro j σ1 H5 hj ⟨u3,rfl,s5⟩;have hij:i+1+j < xs.length:=by omega
   obtain ⟨vj,hvj⟩:∃ y,xs[i+1+j]?=some y:=⟨_,List.getElem?_eq_getElem hij⟩;have Fs:=s5 _ _ iV;have bY:=zT al (bZ.trans s5);obtain ⟨bi,hbi,qi⟩:=Al2.get bY hvi;obtain ⟨bj,hbj,qj⟩:=Al2.get bY hvj;have atj:atI xs (0+(i:Int)+1+(j:Int))=some vj:=by
    have z:=yA hvj;rwa [show ((i+1+j:Nat):Int)=0+(i:Int)+1+(j:Int) by omega] at z
   refine ⟨_,rfl,_,rfl,l,_,_,_,rfl,rfl,SqL.of Fs,atI_z hvi,_,rfl,_,rfl,l,_,_,_,rfl,rfl,SqL.of Fs,atj,vi,vj,bi,bj,rfl,qi.mono (by decide),qj.mono (by decide),λH6 s6=>⟨_,rfl,?_⟩⟩
   have no:=gd.ap i (i+1+j) (by omega) (by omega)
   rw [jR hbi,jR hbj] at no;rw [no];exact iteF ⟨_,rfl,s5.trans s6⟩
  ·rintro σ1 H5 ⟨u3,rfl,s5⟩;exact ⟨_,_,rfl,s5⟩
 ·rintro σ1 H4 ⟨u2,u3,rfl,s4⟩;exact k H4 (bZ.trans s4)
noncomputable def yO (K:Frag):Sp:=λvs H Q _=>∃ m:Nat,vs=[.int (m:Int)]/\m<=40/\Q .non H
theorem sc_refuse_number_of_moments:FnScope ["most"] ["most"] (zD (top 23)):={}
theorem ok_refuse_number_of_moments (D:Df K mg "refuse_number_of_moments" (top 23) ["most"]) (T:Tx K mg C) (ak:Fn P w K mg base 1 "is_whole" ["thing"] (JC K)):Fn P w K mg base 2 "refuse_number_of_moments" ["most"] (yO K):=by
 refine D.ok0 sc_refuse_number_of_moments (λvs H Q E h=>?_) (λf cdv A outer s H vs Q E hr h=>?_)
 ·obtain ⟨m,rfl,_⟩:=h;rfl
 obtain ⟨m,rfl,h40,k⟩:=h;refine ⟨_,(zF (zf (jz (yR (zn (zI ak (by decide) hr (by rfl) zG (zA (pv 0) zB)) (λ_=>rfl))) (yt (yR (pt_chain J4 J4 zC (pv 0) (zZ (by rfl) T.k_MOST_MOMENTS))))).pt (zF jO) zX)),?_⟩
 try dsimp only [cxK,cxK0]
 refine ⟨_,rfl,_,_,true,false,rfl,.int _,yq,yW,_,rfl,?_⟩;refine iteF ?_;refine ⟨_,rfl,_,_,rfl,rfl,?_⟩;refine ⟨_,rfl,?_⟩;refine zd (λ_=>?_) (λc=>absurd (show (0:Int)<=(m:Int) by omega) c)
 refine ⟨_,_,rfl,rfl,_,rfl,?_⟩;exact Zb (λc=>absurd (show (m:Int)<=40 by omega) c) (λ_=>k)
noncomputable def sp_run_in (K:Frag):Sp:=λvs H Q _=>∃ (r x y l:Addr) (R:Rat × Rat) (xs:List V) (gs:List Bq) (m B:Nat),vs=[.ref r,.ref l,.int (m:Int)]/\SqT K H r [.ref x,.ref y]/\FQ K H x R.1/\FQ K H y R.2/\FB 1990 R.1/\FB 1990 R.2/\H l=some (.lst xs)/\Al2 (BqH K 1990 H) xs gs/\GdP R gs/\CmP B R gs/\B+90 * m<=1900/\m<=40/\∀ (t:Addr) (wd:String) (ms:List (Rat × Pr)) (es:List Bq) (last:Rat) (H1:Hp),Same H H1->RunP R gs 0 m wd ms es last->ToldP K H1 t wd ms es last->Q (.ref t) H1
theorem sc_run_in:FnScope ["room","boxes","most"] ["room","boxes","most"] (zD (top 66)):={}
theorem ok_run_in (D:Df K mg "run_in" (top 66) ["room","boxes","most"]) (T:Tx K mg C) (bS:Fn P w K mg base 6 "refuse_boxes" ["room","boxes"] (Zo K)) (aF:Fn P w K mg base 2 "refuse_number_of_moments" ["most"] (yO K)) (bz:FnM P w K mg base 7 (C 0) "__init__" ["self","room","boxes"] (spP_init K (C 0))) (cW:Fn P w K mg base 9 "run_along" ["course","most"] (Y4 K (C 0))):Fn P w K mg base 10 "run_in" ["room","boxes","most"] (sp_run_in K):=by
 refine D.ok0 sc_run_in (λvs H Q E h=>?_) (λf cdv A outer s H vs Q E hr h=>?_)
 ·obtain ⟨r,x,y,l,R,xs,gs,m,B,rfl,_⟩:=h;rfl
 obtain ⟨r,rx,ry,l,R,xs,gs,m,B,rfl,hr0,gx,gy,fx,fy,hl,al,gd,cm,hB,m40,k⟩:=h
 refine ⟨_,(zE (yZ (zI bS (by decide) hr (by rfl) zG (zA (pv 0) (zA (pv 1) zB))))
   (zE (yZ (zI aF (by decide) hr (by rfl) zG (zA (pv 2) zB)))
   (zF (zL (zI cW (by decide) hr (by rfl) zG (zA (pe_mko T.mk_Plane T.kp_Plane bz (by decide) hr (by rfl) T.c_Plane zG (zA (pv 0) (zA (pv 1) zB))) (zA (pv 2) zB))))))),?_⟩
 try dsimp only [cxK,cxK0]
 refine ⟨_,rfl,_,rfl,r,rx,ry,l,R,xs,gs,rfl,hr0,gx,gy,fx,fy,hl,al,gd,λH0 s0=>?_⟩
 refine ⟨_,rfl,m,rfl,m40,?_⟩;refine ⟨_,rfl,_,rfl,?_⟩;intro x dx nx ndx nex;obtain ⟨H1,q1⟩:∃ H1,upd (upd H0 dx (.own x)) x (.ins (C 0) dx [])=H1:=⟨_,rfl⟩;have s1:Same H0 H1:=by
  rw [<- q1];intro a o ha;rw [za (zN ha nx),za (zN ha ndx)];exact ha
 have e1:H1 x=some (.ins (C 0) dx []):=by rw [<- q1]; exact zw
 dsimp only;rw [q1];clear q1;have i5:=s0.trans s1;refine ⟨x,dx,r,rx,ry,l,R,xs,gs,B,rfl,e1,Kw.Same.tup i5 hr0,Kw.Same.tup i5 gx,Kw.Same.tup i5 gy,fx,fy,i5 _ _ hl,zT al i5,gd.l6,cm,by omega,λwl g j H2 s2 ng nj cr=>⟨rfl,?_⟩⟩
 refine ⟨_,rfl,x,R,gs,wl,g,j,m,B,rfl,cr,gd.l6,gd.wt,cm,hB,m40,λt wd ms es last H3 s3 rq told=>?_⟩
 refine k t wd ms es last H3 ?_ rq told;have n1:∀ {a:Addr},H1 a=none->H0 a=none:=λh=>jG s1 h
 intro a o ha;have ha:=s0 a o ha;refine s3 a o ?_ (s2 a o (zN ha nx) (s1 a o ha));simp only [List.mem_cons,List.not_mem_nil,or_false,not_or];exact ⟨zN ha nx,zN ha (n1 ng),zN ha (n1 nj)⟩
theorem sc_law_cell:FnScope ["script","k"] ["script","k"] (zD (top 68)):={}
theorem ok_law_cell (D:Df K mg "_law_cell" (top 68) ["script","k"]) (T:Tx K mg C):Fn P w K mg base 1 "_law_cell" ["script","k"] (spCell K):=by
 refine D.ok0 sc_law_cell (λvs H Q E h=>?_) (λf cdv A outer s H vs Q E hr h=>?_)
 ·obtain ⟨a,k,rfl,_⟩:=h;rfl
 obtain ⟨a,k,rfl,⟨ns,hS,h63,hbd⟩,k0,k1,q⟩:=h
 refine ⟨_,(zE (zf (zR Y6 (pv 1) (zY yI (by rfl) T.b_len PyProof.Rows.Boot.«len» (zA (pv 0) zB)) (zS _)) (zF (zL (zH ix_list (pv 0) (pv 1) (λ_ _=>rfl)))) zX)
   (zF (zL (zP zt (zP zc zC (pv 1)) zC)))),?_⟩
 try dsimp only [cxK,cxK0]
 refine ⟨_,rfl,_,rfl,_,_,rfl,.inl ⟨_,hS,rfl⟩,_,_,rfl,rfl,_,rfl,?_⟩;refine zd (λc=>?_) (λc=>?_)
 ·rw [List.length_map] at c;have hk:k.toNat < ns.length:=by omega
  have ek:k=((k.toNat:Nat):Int):=by omega
  have z:atI (ns.map V.int) ((k.toNat:Nat):Int)=some (.int ns[k.toNat]):=yA (by rw [List.getElem?_map,List.getElem?_eq_getElem hk]<;>rfl)
  rw [<- ek] at z;exact ⟨_,rfl,_,rfl,a,_,_,_,rfl,rfl,hS,z,q _ (hbd _ (List.getElem_mem hk))⟩
 ·refine ⟨_,rfl,_,_,rfl,rfl,ZX (by decide) (by decide),_,_,rfl,rfl,q _ ?_⟩
  exact (Bd.small (by omega) (by omega)).mono (by decide)
theorem YY:FnScope ["cell","k","number"] ["cell","k"] (zD (top 69)):={}
theorem ok_law_mix (D:Df K mg "_law_mix" (top 69) ["cell","k"]) (T:Tx K mg C):Fn P w K mg base 1 "_law_mix" ["cell","k"] spMix:=by
 refine D.ok0 YY (λvs H Q E h=>?_) (λf cdv A outer s H vs Q E hr h=>?_)
 ·obtain ⟨c,k,rfl,_⟩:=h;rfl
 obtain ⟨c,k,rfl,hc,k0,k1,q⟩:=h
 refine ⟨_,(zE (zM (i:=2) YY.nd rfl (Or.inl rfl) (zP zt (zP zc (zP zt (pv 0) zC) zC) (zP zc zC (pv 1))))
   (zE (zM (i:=2) YY.nd rfl (Or.inl rfl) (zP zt (zP J0 (zP zc (pv 2) (pv 2)) zC) (pv 1)))
   (zF (zL (zP J0 (zP zc (pv 2) (zP zt (pv 2) zC)) zC))))),?_⟩
 try dsimp only [cxK,cxK0]
 have s1:∀ i:Int,-(2 ^ 64) < i->i < 2 ^ 64->Bd 1048576 i:=λi h1 h2=>(Bd.small h1 h2).mono (by decide)
 have b1:Bd 1048641 ((c+1) * 40692):=((hc.add (s1 1 (by decide) (by decide))).mul (Bd.small (i:=40692) (by decide) (by decide))).mono (by decide)
 have b2:Bd 1048642 ((c+1) * 40692+104729 * k):=(b1.add ((Bd.small (by omega) (by omega)).mono (by decide))).mono (by decide)
 refine ⟨_,rfl,_,_,rfl,rfl,_,_,rfl,rfl,Jd (by decide) (by decide),_,rfl,_,_,rfl,rfl,ZX (by decide) (by decide),_,_,rfl,rfl,?_⟩
 refine ⟨_,rfl,_,rfl,_,_,rfl,rfl,b2.ok b2 (by decide),_,_,rfl,rfl,(by show (0:Int) < 2147483399; decide),_,rfl,_,_,rfl,rfl,?_⟩
 have e0:=Int.emod_nonneg (((c+1) * 40692+104729 * k) * ((c+1) * 40692+104729 * k)) (show (2147483399:Int)≠0 by decide)
 have e1:=Int.emod_lt_of_pos (((c+1) * 40692+104729 * k) * ((c+1) * 40692+104729 * k)) (show (0:Int) < 2147483399 by decide)
 exact ⟨_,rfl,_,rfl,_,_,rfl,rfl,_,_,rfl,rfl,ZX (by omega) (by omega),_,_,rfl,rfl,(by show (0:Int) < 2147483563; decide),q _⟩
theorem jt:FnScope ["script","k","here","number","j"] ["script","k"] (zD (top 70)):={}
theorem ok_law_box (D:Df K mg "_law_box" (top 70) ["script","k"]) (T:Tx K mg C) (dA:Fn P w K mg base 1 "_law_cell" ["script","k"] (spCell K)) (d6:Fn P w K mg base 1 "_law_mix" ["cell","k"] spMix) :
  Fn P w K mg base 2 "_law_box" ["script","k"] (spBox K):=by
 refine D.ok0 jt (λvs H Q E h=>?_) (λf cdv A outer s H vs Q E hr h=>?_)
 ·obtain ⟨a,k,rfl,_⟩:=h;rfl
 obtain ⟨a,k,rfl,hS,k0,k1,q⟩:=h
 refine ⟨_,(zE (zM (i:=2) jt.nd rfl (Or.inl rfl) (zI dA (by decide) hr (by rfl) zG (zA (pv 0) (zA (pv 1) zB))))
   (zE (zf (zR jh (zP J0 (pv 2) zC) zC (zS _)) (zF (zL (yL (zA (zP yE (pv 2) zC) zB)))) zX)
   (zE (zM (i:=3) jt.nd rfl (Or.inl rfl) zC)
   (zE (yH PassesOwn.never rfl (jF (by rfl) T.b_range (zA zC zB)) (zV (i:=4) jt.nd rfl (Or.inl rfl)) (zF (zM (i:=3) jt.nd rfl (Or.inl rfl) (zP zt (zP zc (pv 3) zC) (zI d6 (by decide) hr (by rfl) zG (zA (pv 2) (zA (pv 4) zB)))))))
   (zF (zL (yL (zA (pv 3) zB)))))))),?_⟩
 try dsimp only [cxK,cxK0]
 refine ⟨_,rfl,_,rfl,a,k,rfl,hS,k0,k1,λc hc=>?_⟩
 refine ⟨_,rfl,_,_,rfl,rfl,(by show (0:Int) < 2; decide),rfl,_,rfl,?_⟩
 refine yr (λz=>?_) (λz=>?_)
 ·refine ⟨_,rfl,_,_,rfl,rfl,⟨by decide,by decide+kernel⟩,(by show 1<=sizeLine; decide),λp hp=>?_⟩
  exact q p _ _ hp (Zv hp _) zw
 refine ⟨_,rfl,by decide,by decide,yX (n:=16) (λi σ' H'=>∃ (n:Int) (r:Option V),σ'=[some (.ref a),some (.int k),some (.int c),some (.int n),r]/\H'=H) ⟨_,_,rfl,rfl⟩ ?_ ?_⟩
 ·rintro i σ' H' hi ⟨n,r,rfl,rfl⟩;refine ⟨_,rfl,_,_,rfl,rfl,Jd (by decide) (by decide),_,rfl,_,rfl,c,_,rfl,hc,by omega,by omega,λm=>?_⟩
  exact ⟨_,_,rfl,rfl,_,_,rfl,rfl⟩
 ·rintro σ' H' ⟨n,r,rfl,rfl⟩;refine ⟨_,rfl,(by show 1<=sizeLine; decide),λp hp=>?_⟩
  exact q p _ _ hp (Zv hp _) zw
theorem Z6:FnScope ["box","many","left","digit"] ["box","many"] (zD (top 71)):={}
theorem ok_law_take (D:Df K mg "_law_take" (top 71) ["box","many"]) (T:Tx K mg C):Fn P w K mg base 1 "_law_take" ["box","many"] spTake:=by
 refine D.ok0 Z6 (λvs H Q E h=>?_) (λf cdv A outer s H vs Q E hr h=>?_)
 ·obtain ⟨b,m,n,rfl,_⟩:=h;rfl
 obtain ⟨b,m,n,rfl,hb,m0,hm,q⟩:=h
 refine ⟨_,(zE (YX (zY call_divmodB (by rfl) T.b_divmod PyProof.Rows.Boot.«divmod» (zA (zH ix_list (pv 0) zC (λ_ _=>rfl)) (zA (pv 1) zB))) (pg_tup rfl (ze (zV (i:=2) Z6.nd rfl (Or.inl rfl)) (ze (zV (i:=3) Z6.nd rfl (Or.inl rfl)) YN))))
   (zE (YX (pv 2) (J7 (pv 0) zC YA))
   (zF (zL (pv 3))))),?_⟩
 try dsimp only [cxK,cxK0]
 refine ⟨_,rfl,b,_,_,_,rfl,rfl,SqL.of hb,rfl,_,rfl,n,m,rfl,⟨m0,hm.log⟩,?_⟩;intro p HW;have sm:=Zv HW (.tup [.int (n / m),.int (n % m)]);have hp:upd H p (.tup [.int (n / m),.int (n % m)]) p=some (.tup [.int (n / m),.int (n % m)]):=zw;refine ⟨p,_,rfl,SqT.of hp,rfl,_,_,rfl,_,_,rfl,rfl,?_⟩;refine ⟨_,rfl,_,rfl,b,_,_,0,rfl,rfl,sm _ _ hb,rfl,_,rfl,?_⟩;have d0:=Int.emod_nonneg n (show m≠0 by omega)
 have d1:=Int.emod_lt_of_pos n m0;exact q (n % m) (n / m) _ d0 d1 ((But.of sm).trans (but_upd _)) zw
theorem ZS:FnScope ["top","bottom","one","other"] ["top","bottom"] (zD (top 72)):={}
theorem ok_law_fit0 (D:Df K mg "_law_fit" (top 72) ["top","bottom"]) (T:Tx K mg C):Fn P w K mg base 1 "_law_fit" ["top","bottom"] spFit:=by
 refine D.ok0 ZS (λvs H Q E h=>?_) (λf cdv A outer s H vs Q E hr h=>?_)
 ·obtain ⟨a,b,rfl,_⟩:=h;rfl
 obtain ⟨a,b,rfl,c,hb,hq⟩:=h
 refine ⟨_,(zE (ps_par (i:=2) (j:=3) rfl ZS.nd rfl rfl (by decide) rfl rfl (zA (zY Y1 (by rfl) T.b_abs PyProof.Rows.Boot.«abs» (zA (pv 0) zB)) (zA (zY Y1 (by rfl) T.b_abs PyProof.Rows.Boot.«abs» (zA (pv 1) zB)) zB)) rfl)
   (zE (Z2 PassesOwn.never (zR op_gt (pv 3) zC (zS _)) (zF (ps_par (i:=2) (j:=3) rfl ZS.nd rfl rfl (by decide) rfl rfl (zA (pv 3) (zA (zP J0 (pv 2) (pv 3)) zB)) rfl)))
   (zE (zf (zR Y6 (pv 1) zC (zS _)) (zF (zM (i:=2) ZS.nd rfl (Or.inl rfl) (zP ZW zC (pv 2)))) zX)
   (zF (zL (zQ (zA (zP yE (pv 0) (pv 2)) (zA (zP yE (pv 1) (pv 2)) zB)))))))),?_⟩
 try dsimp only [cxK,cxK0]
 refine ⟨_,rfl,_,rfl,_,rfl,_,rfl,_,_,rfl,?_⟩;refine ⟨λm σ' H'=>∃ g s:Int,σ'=[some (.int a),some (.int b),some (.int g),some (.int s)]/\H'=H/\0<=g/\0<=s/\m=s.toNat/\Int.gcd g s=Int.gcd a b,⟨_,_,_,rfl,rfl,abs_nn a,abs_nn b,rfl,gcd_abs a b⟩,?_⟩
 rintro m σ' H' ⟨g,s,rfl,rfl,hg,hs,rfl,e⟩;refine ⟨_,rfl,_,_,rfl,rfl,_,rfl,?_⟩;refine zd (λc=>?_) (λz=>?_)
 ·refine ⟨_,λ_ _ n=>n,?_⟩
  refine ⟨_,rfl,_,rfl,_,rfl,_,_,rfl,rfl,c,_,_,rfl,?_⟩;have l:=Int.emod_lt_of_pos g c;have l0:=Int.emod_nonneg g (show s≠0 by omega)
  exact ⟨_,by omega,s,g % s,rfl,rfl,by omega,l0,rfl,(gcd_step g s hg c).trans e⟩
 ·have s0:s=0:=by omega
  subst s0;have z:=gcd_end g hg;rw [e] at z;subst z;have hd:(if b < 0 then -((Int.gcd a b:Nat):Int) else ((Int.gcd a b:Nat):Int))=dv a b:=rfl
  have lg:=(bd_dv (t:=a) c hb).log;refine ⟨_,rfl,_,_,rfl,rfl,_,rfl,?_⟩;refine zd (λn=>?_) (λn=>?_)
  ·rw [if_pos n] at hd;refine ⟨_,rfl,_,_,rfl,rfl,?_⟩;dsimp only;rw [show (0:Int) - ((Int.gcd a b:Nat):Int)=dv a b by rw [<- hd]; omega]
   refine ⟨_,rfl,_,rfl,_,_,rfl,rfl,⟨Zl c,lg⟩,_,rfl,_,rfl,_,_,rfl,rfl,⟨Zl c,lg⟩,by show 2<=sizeLine; decide,?_⟩
   exact JK λp H' sm hp=>hq p H' sm hp
  ·rw [if_neg n] at hd;rw [hd];refine ⟨_,rfl,_,rfl,_,_,rfl,rfl,⟨Zl c,lg⟩,_,rfl,_,rfl,_,_,rfl,rfl,⟨Zl c,lg⟩,by show 2<=sizeLine; decide,?_⟩
   exact JK λp H' sm hp=>hq p H' sm hp
noncomputable def jr (K:Frag):Sp:=λvs H Q _=>∃ (a:Int) (b:Int),vs=[.int a,.int b]/\Bd 9000 b/\b≠0/\(∀ (p_r:Addr) (H1:Hp),Same H H1->FQ K H1 p_r (Rat.divInt a b)->Q (.ref p_r) H1)
theorem ok_law_fit (D:Df K mg "_law_fit" (top 72) ["top","bottom"]) (T:Tx K mg C):Fn P w K mg base 1 "_law_fit" ["top","bottom"] (jr K):=
 (ok_law_fit0 D T).imp λvs H Q E h=>by
  obtain ⟨a,b,rfl,hb,b0,k⟩:=h;exact ⟨a,b,rfl,b0,hb,λp H' s e=>k p H' s (FQ.fit b0 (SqT.of e))⟩
noncomputable def Zu (K:Frag):Sp:=λvs H Q _=>∃ (p_x:Addr) (x:Rat) (p_y:Addr) (y:Rat),vs=[.ref p_x,.ref p_y]/\FQ K H p_x x/\FB 4400 x/\FQ K H p_y y/\FB 4400 y/\(∀ (p_r:Addr) (H1:Hp),Same H H1->FQ K H1 p_r (x+y)->Q (.ref p_r) H1)
theorem sc_law_plus:FnScope ["one","other"] ["one","other"] (zD (top 73)):={}
theorem ok_law_plus (D:Df K mg "_law_plus" (top 73) ["one","other"]) (T:Tx K mg C) (ah:Fn P w K mg base 1 "_law_fit" ["top","bottom"] (jr K)):Fn P w K mg base 2 "_law_plus" ["one","other"] (Zu K):=by
 refine D.ok0 sc_law_plus (λvs H Q E h=>?_) (λf cdv A outer s H vs Q E hr h=>?_)
 ·obtain ⟨p_x,x,p_y,y,rfl,_⟩:=h;rfl
 obtain ⟨p_x,x,p_y,y,rfl,g_x,d_x,g_y,d_y,k0⟩:=h;refine ⟨_,(zF (zL (zI ah (by decide) hr (by rfl) zG (zA (zP zt (zP zc (zH ix_tup (pv 0) zC (λ_ _=>rfl)) (zH ix_tup (pv 1) zC (λ_ _=>rfl))) (zP zc (zH ix_tup (pv 1) zC (λ_ _=>rfl)) (zH ix_tup (pv 0) zC (λ_ _=>rfl)))) (zA (zP zc (zH ix_tup (pv 0) zC (λ_ _=>rfl)) (zH ix_tup (pv 1) zC (λ_ _=>rfl))) zB))))),?_⟩
 try dsimp only [cxK,cxK0]
 refine ⟨_,rfl,p_x,_,_,_,rfl,rfl,g_x,rfl,_,rfl,p_y,_,_,_,rfl,rfl,g_y,rfl,_,_,rfl,rfl,(d_x.1.ok d_y.2 (by decide)),_,rfl,p_y,_,_,_,rfl,rfl,g_y,rfl,_,rfl,p_x,_,_,_,rfl,rfl,g_x,rfl,_,_,rfl,rfl,(d_y.1.ok d_x.2 (by decide)),_,_,rfl,rfl,_,rfl,p_x,_,_,_,rfl,rfl,g_x,rfl,_,rfl,p_y,_,_,_,rfl,rfl,g_y,rfl,_,_,rfl,rfl,(d_x.2.ok d_y.2 (by decide)),_,_,rfl,((Bd.mul d_x.2 d_y.2).mono (by decide)),(by exact Int.mul_ne_zero (q_ne _) (q_ne _)),λp_r13 iQ aJ g_r13=>?_⟩
 have d_r13:FB 8801 (Rat.divInt ((((x).num * (((y).den:Nat):Int))+((y).num * (((x).den:Nat):Int)))) (((((x).den:Nat):Int) * (((y).den:Nat):Int)))):=(FB.mono (FB.fit (by exact Int.mul_ne_zero (q_ne _) (q_ne _)) ((Bd.add ((Bd.mul d_x.1 d_y.2).mono (n:=8800) (by decide)) ((Bd.mul d_y.1 d_x.2).mono (n:=8800) (by decide))).mono (n:=8801) (by decide)) ((Bd.mul d_x.2 d_y.2).mono (n:=8801) (by decide))) (by decide))
 have iS:((Rat.divInt ((((x).num * (((y).den:Nat):Int))+((y).num * (((x).den:Nat):Int)))) (((((x).den:Nat):Int) * (((y).den:Nat):Int)))):Rat)=x+y:=by exact q_add x y
 exact k0 _ _ aJ (FQ.cast g_r13 iS)
noncomputable def Yk (K:Frag):Sp:=λvs H Q _=>∃ (p_x:Addr) (x:Rat) (p_y:Addr) (y:Rat),vs=[.ref p_x,.ref p_y]/\FQ K H p_x x/\FB 4400 x/\FQ K H p_y y/\FB 4400 y/\(∀ (p_r:Addr) (H1:Hp),Same H H1->FQ K H1 p_r (x - y)->Q (.ref p_r) H1)
theorem sc_law_minus:FnScope ["one","other"] ["one","other"] (zD (top 74)):={}
theorem ok_law_minus (D:Df K mg "_law_minus" (top 74) ["one","other"]) (T:Tx K mg C) (ah:Fn P w K mg base 1 "_law_fit" ["top","bottom"] (jr K)):Fn P w K mg base 2 "_law_minus" ["one","other"] (Yk K):=by
 refine D.ok0 sc_law_minus (λvs H Q E h=>?_) (λf cdv A outer s H vs Q E hr h=>?_)
 ·obtain ⟨p_x,x,p_y,y,rfl,_⟩:=h;rfl
 obtain ⟨p_x,x,p_y,y,rfl,g_x,d_x,g_y,d_y,k0⟩:=h;refine ⟨_,(zF (zL (zI ah (by decide) hr (by rfl) zG (zA (zP ZW (zP zc (zH ix_tup (pv 0) zC (λ_ _=>rfl)) (zH ix_tup (pv 1) zC (λ_ _=>rfl))) (zP zc (zH ix_tup (pv 1) zC (λ_ _=>rfl)) (zH ix_tup (pv 0) zC (λ_ _=>rfl)))) (zA (zP zc (zH ix_tup (pv 0) zC (λ_ _=>rfl)) (zH ix_tup (pv 1) zC (λ_ _=>rfl))) zB))))),?_⟩
 try dsimp only [cxK,cxK0]
 refine ⟨_,rfl,p_x,_,_,_,rfl,rfl,g_x,rfl,_,rfl,p_y,_,_,_,rfl,rfl,g_y,rfl,_,_,rfl,rfl,(d_x.1.ok d_y.2 (by decide)),_,rfl,p_y,_,_,_,rfl,rfl,g_y,rfl,_,rfl,p_x,_,_,_,rfl,rfl,g_x,rfl,_,_,rfl,rfl,(d_y.1.ok d_x.2 (by decide)),_,_,rfl,rfl,_,rfl,p_x,_,_,_,rfl,rfl,g_x,rfl,_,rfl,p_y,_,_,_,rfl,rfl,g_y,rfl,_,_,rfl,rfl,(d_x.2.ok d_y.2 (by decide)),_,_,rfl,((Bd.mul d_x.2 d_y.2).mono (by decide)),(by exact Int.mul_ne_zero (q_ne _) (q_ne _)),λp_r15 HX ej g_r15=>?_⟩
 have d_r15:FB 8801 (Rat.divInt ((((x).num * (((y).den:Nat):Int)) - ((y).num * (((x).den:Nat):Int)))) (((((x).den:Nat):Int) * (((y).den:Nat):Int)))):=(FB.mono (FB.fit (by exact Int.mul_ne_zero (q_ne _) (q_ne _)) ((Bd.sub ((Bd.mul d_x.1 d_y.2).mono (n:=8800) (by decide)) ((Bd.mul d_y.1 d_x.2).mono (n:=8800) (by decide))).mono (n:=8801) (by decide)) ((Bd.mul d_x.2 d_y.2).mono (n:=8801) (by decide))) (by decide))
 have pQ:((Rat.divInt ((((x).num * (((y).den:Nat):Int)) - ((y).num * (((x).den:Nat):Int)))) (((((x).den:Nat):Int) * (((y).den:Nat):Int)))):Rat)=x - y:=by exact q_sub x y
 exact k0 _ _ ej (FQ.cast g_r15 pQ)
noncomputable def Z5 (K:Frag):Sp:=λvs H Q _=>∃ (p_x:Addr) (x:Rat) (p_y:Addr) (y:Rat),vs=[.ref p_x,.ref p_y]/\FQ K H p_x x/\FB 60000 x/\FQ K H p_y y/\FB 60000 y/\(∀ (H1:Hp),Same H H1->Q (.bl (decide (x < y))) H1)
theorem sc_law_less:FnScope ["one","other"] ["one","other"] (zD (top 75)):={}
theorem ok_law_less (D:Df K mg "_law_less" (top 75) ["one","other"]) (T:Tx K mg C):Fn P w K mg base 1 "_law_less" ["one","other"] (Z5 K):=by
 refine D.ok0 sc_law_less (λvs H Q E h=>?_) (λf cdv A outer s H vs Q E hr h=>?_)
 ·obtain ⟨p_x,x,p_y,y,rfl,_⟩:=h;rfl
 obtain ⟨p_x,x,p_y,y,rfl,g_x,d_x,g_y,d_y,k0⟩:=h;refine ⟨_,(zF (zL (ym Y6 (zP zc (zH ix_tup (pv 0) zC (λ_ _=>rfl)) (zH ix_tup (pv 1) zC (λ_ _=>rfl))) (zP zc (zH ix_tup (pv 1) zC (λ_ _=>rfl)) (zH ix_tup (pv 0) zC (λ_ _=>rfl))) (zS _)))),?_⟩
 try dsimp only [cxK,cxK0]
 refine ⟨_,rfl,p_x,_,_,_,rfl,rfl,g_x,rfl,_,rfl,p_y,_,_,_,rfl,rfl,g_y,rfl,_,_,rfl,rfl,(d_x.1.ok d_y.2 (by decide)),_,rfl,p_y,_,_,_,rfl,rfl,g_y,rfl,_,rfl,p_x,_,_,_,rfl,rfl,g_x,rfl,_,_,rfl,rfl,(d_y.1.ok d_x.2 (by decide)),_,_,rfl,rfl,?_⟩
 try dsimp only
 rw [show decide (((x).num * (((y).den:Nat):Int)) < ((y).num * (((x).den:Nat):Int)))=decide (x < y) from decide_eq_decide.mpr (by exact (q_lt x y).symm)]
 exact k0 _ (Same.refl _)
noncomputable def JY (K:Frag):Sp:=λvs H Q _=>∃ b n,vs=[.ref b]/\H b=some (.lst [.int n])/\∀ (rp r0 r1:Addr) (R:Rat × Rat) (H':Hp) (n':Int),But b H H'->H' b=some (.lst [.int n'])->SqT K H' rp [.ref r0,.ref r1]->FQ K H' r0 R.1->FQ K H' r1 R.2->RmQ R->Q (.ref rp) H'
theorem sc_law_room:FnScope ["box"] ["box"] (zD (top 76)):={}
theorem ok_law_room (D:Df K mg "_law_room" (top 76) ["box"]) (T:Tx K mg C) (aa:Fn P w K mg base 1 "_law_take" ["box","many"] spTake) (ah:Fn P w K mg base 1 "_law_fit" ["top","bottom"] (jr K)):Fn P w K mg base 2 "_law_room" ["box"] (JY K):=by
 refine D.ok0 sc_law_room (λvs H Q E h=>?_) (λf cdv A outer s H vs Q E hr h=>?_)
 ·obtain ⟨b,n,rfl,_⟩:=h;rfl
 obtain ⟨b,n,rfl,hb,q⟩:=h
 refine ⟨_,(zE (zf (zR jh (zI aa (by decide) hr (by rfl) zG (zA (pv 0) (zA zC zB))) zC (zS _)) (zF (zL (zQ (zA (zQ (zA (zP zt zC (zI aa (by decide) hr (by rfl) zG (zA (pv 0) (zA zC zB)))) (zA zC zB))) (zA (zQ (zA (zP zt zC (zI aa (by decide) hr (by rfl) zG (zA (pv 0) (zA zC zB)))) (zA zC zB))) zB))))) zX)
   (zF (zL (zQ (zA (zI ah (by decide) hr (by rfl) zG (zA (zP zt zC (zI aa (by decide) hr (by rfl) zG (zA (pv 0) (zA zC zB)))) (zA zC zB))) (zA (zI ah (by decide) hr (by rfl) zG (zA (zP zt zC (zI aa (by decide) hr (by rfl) zG (zA (pv 0) (zA zC zB)))) (zA zC zB))) zB)))))),?_⟩
 try dsimp only [cxK,cxK0]
 have er:∀ i:Int,-(2 ^ 64) < i->i < 2 ^ 64->Bd 9000 i:=λi h1 h2=>(Bd.small h1 h2).mono (by decide)
 refine ⟨_,rfl,b,2,n,rfl,hb,by decide,er _ (by decide) (by decide),λd1 n1 H1 u1 v1 s1 eP=>⟨rfl,_,rfl,?_⟩⟩
 refine yr (λc=>?_) (λc=>?_)
 ·refine ⟨_,rfl,b,7,n1,rfl,eP,by decide,er _ (by decide) (by decide),λd2 n2 H2 u2 v2 s2 c9=>?_⟩
  refine ⟨_,_,rfl,rfl,by show 2<=sizeLine; decide,?_⟩
  intro p3 n3;obtain ⟨H3,q3,s3,e3⟩:=newO n3 (.tup [.int (6+d2),.int 1]);rw [q3];clear q3;refine ⟨_,rfl,b,7,n2,rfl,s3 _ _ c9,by decide,er _ (by decide) (by decide),λd4 n4 H4 u4 v4 s4 i6=>?_⟩
  refine ⟨_,_,rfl,rfl,by show 2<=sizeLine; decide,?_⟩
  intro p5 n5;obtain ⟨H5,q5,s5,e5⟩:=newO n5 (.tup [.int (4+d4),.int 1]);rw [q5];clear q5;refine ⟨by show 2<=sizeLine; decide,?_⟩
  intro p6 n6;obtain ⟨H6,q6,s6,e6⟩:=newO n6 (.tup [.ref p3,.ref p5]);rw [q6];clear q6;have f3:FQ K H3 p3 ((6+d2:Int):Rat):=SqT.of e3;have f5:FQ K H5 p5 ((4+d4:Int):Rat):=SqT.of e5;exact q p6 p3 p5 (((6+d2:Int):Rat),((4+d4:Int):Rat)) H6 n4 (s1.trans (s2.trans ((But.of s3).trans (s4.trans (But.of (s5.trans s6)))))) (s6 _ _ (s5 _ _ i6)) (SqT.of e6) (Kw.Same.tup (s5.trans s6) (s4.tup (s3 _ _ c9) f3)) (Kw.Same.tup s6 f5) (rm_int (by omega) (by omega) (by omega) (by omega))
 ·refine ⟨_,rfl,b,60,n1,rfl,eP,by decide,er _ (by decide) (by decide),λd2 n2 H2 u2 v2 s2 c9=>?_⟩
  refine ⟨_,_,rfl,rfl,_,_,rfl,er _ (by decide) (by decide),by decide,λp3 H3 s3 f3=>?_⟩
  refine ⟨_,rfl,b,60,n2,rfl,s3 _ _ c9,by decide,er _ (by decide) (by decide),λd4 n4 H4 u4 v4 s4 i6=>?_⟩
  refine ⟨_,_,rfl,rfl,_,_,rfl,er _ (by decide) (by decide),by decide,λp5 H5 s5 f5=>?_⟩
  refine ⟨by show 2<=sizeLine; decide,?_⟩
  intro p6 n6;obtain ⟨H6,q6,s6,e6⟩:=newO n6 (.tup [.ref p3,.ref p5]);rw [q6];clear q6;exact q p6 p3 p5 (Rat.divInt (40+d2) 7,Rat.divInt (30+d4) 7) H6 n4 (s1.trans (s2.trans ((But.of s3).trans (s4.trans (But.of (s5.trans s6)))))) (s6 _ _ (s5 _ _ i6)) (SqT.of e6) (Kw.Same.tup (s5.trans s6) (s4.tup (s3 _ _ c9) f3)) (Kw.Same.tup s6 f5) (rm_sev (by omega) (by omega) (by omega) (by omega))
noncomputable def Yg (K:Frag):Sp:=λvs H Q _=>∃ (z y:V) (k l:Bq) (N:Nat),vs=[z,y]/\BqH K N H z k/\BqH K N H y l/\N<=2390/\∀ H',Same H H'->Q (.bl (!(hicB k l 0 && hicB k l 1))) H'
theorem Yy:FnScope ["one","other","way"] ["one","other"] (zD (top 77)):={}
theorem ok_law_apart (D:Df K mg "_law_apart" (top 77) ["one","other"]) (T:Tx K mg C) (aG:Fn P w K mg base 1 "_law_less" ["one","other"] (Z5 K)) (aH:Fn P w K mg base 2 "_law_plus" ["one","other"] (Zu K)):Fn P w K mg base 3 "_law_apart" ["one","other"] (Yg K):=by
 refine D.ok0 Yy (λvs H Q E h=>?_) (λf cdv A outer s H vs Q E hr h=>?_)
 ·obtain ⟨z,y,k,l,N,rfl,_⟩:=h;rfl
 obtain ⟨z,y,k,l,N,rfl,hz,hy,hN,q⟩:=h
 refine ⟨_,(zE (yH PassesOwn.never rfl (jF (by rfl) T.b_range (zA zC zB)) (zV (i:=2) Yy.nd rfl (Or.inl rfl)) (zE (zf (yR (zn (zI aG (by decide) hr (by rfl) zG (zA (zH ix_tup (pv 1) (pv 2) (λ_ _=>rfl)) (zA (zI aH (by decide) hr (by rfl) zG (zA (zH ix_tup (pv 0) (pv 2) (λ_ _=>rfl)) (zA (zH ix_tup (pv 0) (zP zt zC (pv 2)) (λ_ _=>rfl)) zB))) zB))) (λ_=>rfl))) (zF (zL jL)) zX)
   (zF (zf (yR (zn (zI aG (by decide) hr (by rfl) zG (zA (zH ix_tup (pv 0) (pv 2) (λ_ _=>rfl)) (zA (zI aH (by decide) hr (by rfl) zG (zA (zH ix_tup (pv 1) (pv 2) (λ_ _=>rfl)) (zA (zH ix_tup (pv 1) (zP zt zC (pv 2)) (λ_ _=>rfl)) zB))) zB))) (λ_=>rfl))) (zF (zL jL)) zX))))
   (zF (zL jL))),?_⟩
 try dsimp only [cxK,cxK0]
 obtain ⟨p,a0,a1,a2,a3,a4,a5,rfl,hp,⟨g0,g1,g2,g3,g4,g5⟩,⟨d0,d1,d2,d3,d4,d5⟩,_⟩:=hz;obtain ⟨r,b0,b1,b2,b3,b4,b5,rfl,dO,⟨k0,k1,k2,k3,k4,k5⟩,⟨f0,f1,f2,f3,f4,f5⟩,_⟩:=hy;have me:∀ {x:Rat},FB N x->FB 60000 x:=λh=>h.mono (by omega)
 have ms:∀ {x y:Rat},FB N x->FB 1990 y->FB 60000 (x+y):=λh g=>(h.add g).mono (by omega)
 have md:∀ {x:Rat},FB N x->FB 4400 x:=λh=>h.mono (by omega)
 have mf:∀ {x:Rat},FB 1990 x->FB 4400 x:=λh=>h.mono (by decide)
 have bad:(hicB k l 0 && hicB k l 1)=false->∀ H',Same H H'->Q (.bl true) H':=λe H' s'=>by
  have z:=q H' s';rw [e] at z;exact z
 refine ⟨_,rfl,by decide,by decide,yX (n:=2) (λi σ1 H1=>∃ r3:Option V,σ1=[some (.ref p),some (.ref r),r3]/\Same H H1/\(1<=i->hicB k l 0=true)/\(2<=i->hicB k l 1=true)) ⟨_,rfl,Same.refl H,λz=>absurd z (by omega),λz=>absurd z (by omega)⟩ ?_ ?_⟩
 ·rintro i σ1 H1 hi ⟨r3,rfl,sm,i1,i2⟩;have cP:=Kw.Same.tup sm hp;have gp:=Kw.Same.tup sm dO
  match i,hi with
  |0,_=>
   refine ⟨_,rfl,_,rfl,r,_,_,_,rfl,rfl,gp,rfl,_,rfl,_,rfl,p,_,_,_,rfl,rfl,cP,rfl,_,rfl,_,rfl,_,_,rfl,rfl,p,_,_,_,rfl,rfl,cP,rfl,?_⟩;refine ⟨_,_,_,_,rfl,Kw.Same.tup sm g0,md d0,Kw.Same.tup sm g2,mf d2,λm2 H2 s2 e2=>?_⟩
   have t2:=sm.trans s2;refine ⟨_,_,_,_,rfl,Kw.Same.tup t2 k0,me f0,e2,ms d0 d2,λH3 s3=>⟨_,rfl,?_⟩⟩
   have t3:=t2.trans s3;refine Zb (λc=>?_) (λc=>?_)
   ·refine bad ?_ H3 t3;have e:hicB k l 0=false:=by
     unfold hicB;rw [show decide (l.pl 0 < k.far 0)=false from decide_eq_false c,Bool.and_false]
    rw [e];simp
   refine ⟨_,rfl,_,rfl,p,_,_,_,rfl,rfl,Kw.Same.tup t3 hp,rfl,_,rfl,_,rfl,r,_,_,_,rfl,rfl,Kw.Same.tup t3 dO,rfl,_,rfl,_,rfl,_,_,rfl,rfl,r,_,_,_,rfl,rfl,Kw.Same.tup t3 dO,rfl,?_⟩;refine ⟨_,_,_,_,rfl,Kw.Same.tup t3 k0,md f0,Kw.Same.tup t3 k2,mf f2,λm4 H4 s4 e4=>?_⟩
   have t4:=t3.trans s4;refine ⟨_,_,_,_,rfl,Kw.Same.tup t4 g0,me d0,e4,ms f0 f2,λH5 s5=>⟨_,rfl,?_⟩⟩
   have t5:=t4.trans s5;refine Zb (λc2=>?_) (λc2=>?_)
   ·refine bad ?_ H5 t5;have e:hicB k l 0=false:=by
     unfold hicB;rw [show decide (k.pl 0 < l.far 0)=false from decide_eq_false c2,Bool.false_and]
    rw [e];simp
   have hh:hicB k l 0=true:=by
    unfold hicB;rw [show decide (l.pl 0 < k.far 0)=true from decide_eq_true c,show decide (k.pl 0 < l.far 0)=true from decide_eq_true c2];rfl
   exact ⟨_,rfl,t5,λ_=>hh,λz=>absurd z (by omega)⟩
  |1,_=>
   refine ⟨_,rfl,_,rfl,r,_,_,_,rfl,rfl,gp,rfl,_,rfl,_,rfl,p,_,_,_,rfl,rfl,cP,rfl,_,rfl,_,rfl,_,_,rfl,rfl,p,_,_,_,rfl,rfl,cP,rfl,?_⟩;refine ⟨_,_,_,_,rfl,Kw.Same.tup sm g1,md d1,Kw.Same.tup sm g3,mf d3,λm2 H2 s2 e2=>?_⟩
   have t2:=sm.trans s2;refine ⟨_,_,_,_,rfl,Kw.Same.tup t2 k1,me f1,e2,ms d1 d3,λH3 s3=>⟨_,rfl,?_⟩⟩
   have t3:=t2.trans s3;refine Zb (λc=>?_) (λc=>?_)
   ·refine bad ?_ H3 t3;have e:hicB k l 1=false:=by
     unfold hicB;rw [show decide (l.pl 1 < k.far 1)=false from decide_eq_false c,Bool.and_false]
    rw [e];simp
   refine ⟨_,rfl,_,rfl,p,_,_,_,rfl,rfl,Kw.Same.tup t3 hp,rfl,_,rfl,_,rfl,r,_,_,_,rfl,rfl,Kw.Same.tup t3 dO,rfl,_,rfl,_,rfl,_,_,rfl,rfl,r,_,_,_,rfl,rfl,Kw.Same.tup t3 dO,rfl,?_⟩;refine ⟨_,_,_,_,rfl,Kw.Same.tup t3 k1,md f1,Kw.Same.tup t3 k3,mf f3,λm4 H4 s4 e4=>?_⟩
   have t4:=t3.trans s4;refine ⟨_,_,_,_,rfl,Kw.Same.tup t4 g1,me d1,e4,ms f1 f3,λH5 s5=>⟨_,rfl,?_⟩⟩
   have t5:=t4.trans s5;refine Zb (λc2=>?_) (λc2=>?_)
   ·refine bad ?_ H5 t5;have e:hicB k l 1=false:=by
     unfold hicB;rw [show decide (k.pl 1 < l.far 1)=false from decide_eq_false c2,Bool.false_and]
    rw [e];simp
   have hh:hicB k l 1=true:=by
    unfold hicB;rw [show decide (l.pl 1 < k.far 1)=true from decide_eq_true c,show decide (k.pl 1 < l.far 1)=true from decide_eq_true c2];rfl
   exact ⟨_,rfl,t5,λ_=>i1 (by omega),λ_=>hh⟩
 ·rintro σ1 H1 ⟨r3,rfl,sm,i1,i2⟩;have z:=q H1 sm;rw [i1 (by decide),i2 (by decide)] at z
  exact z
noncomputable def JB (K:Frag):Sp:=λvs H Q _=>∃ (b:Addr) (n:Int) (rp r0 r1:Addr) (R:Rat × Rat),vs=[.ref b,.ref rp]/\H b=some (.lst [.int n])/\SqT K H rp [.ref r0,.ref r1]/\FQ K H r0 R.1/\FQ K H r1 R.2/\RmQ R/\
 ∀ (f:Addr) (xs:List V) (gs:List Bq) (n':Int) (H':Hp),But b H H'->H' b=some (.lst [.int n'])->f≠b->H f=none->H' f=some (.lst xs)->Al2 (BqH K 1990 H') xs gs->1<=gs.length->BxsQ R gs->Q (.ref f) H'
theorem zj:FnScope ["box","room","found","bottom","k","wide","high","left","low","right","up","weight","one"] ["box","room"] (zD (top 78)):={}
theorem ok_law_boxes (D:Df K mg "_law_boxes" (top 78) ["box","room"]) (T:Tx K mg C) (aa:Fn P w K mg base 1 "_law_take" ["box","many"] spTake) (ah:Fn P w K mg base 1 "_law_fit" ["top","bottom"] (jr K)) (aG:Fn P w K mg base 1 "_law_less" ["one","other"] (Z5 K)) (aH:Fn P w K mg base 2 "_law_plus" ["one","other"] (Zu K)) (cX:Fn P w K mg base 3 "_law_apart" ["one","other"] (Yg K)):Fn P w K mg base 4 "_law_boxes" ["box","room"] (JB K):=by
 refine D.ok0 zj (λvs H Q E h=>?_) (λf cdv A outer s H vs Q E hr h=>?_)
 ·obtain ⟨b,n,rp,r0,r1,R,rfl,_⟩:=h;rfl
 obtain ⟨b,n,rp,r0,r1,R,rfl,hb,hrm,gM,i7,rmq,q⟩:=h;have i8:FB 1990 R.1:=rmq.2.2.1.f42;have i9:FB 1990 R.2:=rmq.2.2.2.f42
 refine ⟨_,(zE (zM (i:=2) zj.nd rfl (Or.inl rfl) (yL zB))
   (zE (zM (i:=3) zj.nd rfl (Or.inl rfl) (zH ix_list (yL (zA zC (zA zC (zA zC (zA zC zB))))) (zI aa (by decide) hr (by rfl) zG (zA (pv 0) (zA zC zB))) (λ_ _=>rfl)))
   (zE (yH PassesOwn.never rfl (jF (by rfl) T.b_range (zA (zP zt zC (zI aa (by decide) hr (by rfl) zG (zA (pv 0) (zA zC zB)))) zB)) (zV (i:=4) zj.nd rfl (Or.inl rfl)) (zE (zM (i:=5) zj.nd rfl (Or.inl rfl) (zI ah (by decide) hr (by rfl) zG (zA (zP zt zC (zI aa (by decide) hr (by rfl) zG (zA (pv 0) (zA (zP zc zC (pv 3)) zB)))) (zA (pv 3) zB))))
   (zE (zM (i:=6) zj.nd rfl (Or.inl rfl) (zI ah (by decide) hr (by rfl) zG (zA (zP zt zC (zI aa (by decide) hr (by rfl) zG (zA (pv 0) (zA (zP zc zC (pv 3)) zB)))) (zA (pv 3) zB))))
   (zE (zM (i:=7) zj.nd rfl (Or.inl rfl) (zI ah (by decide) hr (by rfl) zG (zA (zI aa (by decide) hr (by rfl) zG (zA (pv 0) (zA (zP zc zC (pv 3)) zB))) (zA (pv 3) zB))))
   (zE (zM (i:=8) zj.nd rfl (Or.inl rfl) (zI ah (by decide) hr (by rfl) zG (zA (zI aa (by decide) hr (by rfl) zG (zA (pv 0) (zA (zP zc zC (pv 3)) zB))) (zA (pv 3) zB))))
   (zE (zM (i:=9) zj.nd rfl (Or.inl rfl) (zI ah (by decide) hr (by rfl) zG (zA (zP ZW (zI aa (by decide) hr (by rfl) zG (zA (pv 0) (zA zC zB))) zC) (zA (zH ix_list (yL (zA zC (zA zC (zA zC zB)))) (zI aa (by decide) hr (by rfl) zG (zA (pv 0) (zA zC zB))) (λ_ _=>rfl)) zB))))
   (zE (zM (i:=10) zj.nd rfl (Or.inl rfl) (zI ah (by decide) hr (by rfl) zG (zA (zP ZW (zI aa (by decide) hr (by rfl) zG (zA (pv 0) (zA zC zB))) zC) (zA (zH ix_list (yL (zA zC (zA zC (zA zC zB)))) (zI aa (by decide) hr (by rfl) zG (zA (pv 0) (zA zC zB))) (λ_ _=>rfl)) zB))))
   (zE (zM (i:=11) zj.nd rfl (Or.inl rfl) (zP zt zC (zI aa (by decide) hr (by rfl) zG (zA (pv 0) (zA (zH ix_list (yL (zA zC (zA zC (zA zC zB)))) (zI aa (by decide) hr (by rfl) zG (zA (pv 0) (zA zC zB))) (λ_ _=>rfl)) zB)))))
   (zE (zM (i:=12) zj.nd rfl (Or.inr rfl) (zQ (zA (pv 7) (zA (pv 8) (zA (pv 5) (zA (pv 6) (zA (pv 9) (zA (pv 10) (zA (pv 11) zB)))))))))
   (zF (zf (Z7 (yR (zn (zI aG (by decide) hr (by rfl) zG (zA (zH ix_tup (pv 1) zC (λ_ _=>rfl)) (zA (zI aH (by decide) hr (by rfl) zG (zA (pv 7) (zA (pv 5) zB))) zB))) (λ_=>rfl))) (jx (yR (zn (zI aG (by decide) hr (by rfl) zG (zA (zH ix_tup (pv 1) zC (λ_ _=>rfl)) (zA (zI aH (by decide) hr (by rfl) zG (zA (pv 8) (zA (pv 6) zB))) zB))) (λ_=>rfl))))).pt (zF (zf (@PW.pt _ _ _ (Z7 (zR Y6 (zY yI (by rfl) T.b_len PyProof.Rows.Boot.«len» (zA (pv 2) zB)) zC (zS _)) (jx (zn (zY (call_all (K:=K) rfl rfl) (by rfl) T.b_all PyProof.Rows.Boot.«all» (zA (@Zh _ _ _ _ _ _ _ _ _ _ ["one"] [12] rfl (zo (pv 2)) rfl (by decide) rfl (by decide) rfl (by decide) (jA (j:=12) rfl rfl rfl rfl (.inl rfl)) (λy c h=>h) (ja rfl) (λC z Hc fp=>(zI cX (by decide) hr (by rfl) zG (zA (pv 1) (zA (pv 0) zB)))) (λ_=>rfl)) zB)) (λ_=>rfl))))) (zF (yZ (Ja PySem.F.plainAttrs_list PySem.F.slot_list_append PySem.F.type_list_append jY (pv 2) (zA (pv 12) zB)))) zX)) zX)))))))))))
   (zE (@zf _ _ _ _ _ _ _ _ (zR (op_eqNil (K:=K) rfl (u100 hr)) (pv 2) (yL zB) (zS _)) (@zF _ _ _ (@zL _ _ _ _ (@pe_lst1 _ _ _ _ _ _ (@pe_tup7 _ _ _ _ _ _ _ _ _ _ _ _ _ _ _ _ _ _ _ _ _ _ _ _ _ _ _ _ _ _ (@YG _ _ _ _ _ _ _ _ _) (@YG _ _ _ _ _ _ _ _ _) (@YG _ _ _ _ _ _ _ _ _) (@YG _ _ _ _ _ _ _ _ _) (@YG _ _ _ _ _ _ _ _ _) (@YG _ _ _ _ _ _ _ _ _))))) zX)
   (zF (zL (pv 2))))))),?_⟩
 try dsimp only [cxK,cxK0]
 have er:∀ i:Int,-(2 ^ 64) < i->i < 2 ^ 64->Bd 9000 i:=λi h1 h2=>(Bd.small h1 h2).mono (by decide)
 refine ⟨by show 0<=sizeLine; decide,?_⟩
 intro p1 n1;obtain ⟨H1,q1,s1,e1⟩:=newO n1 (.lst []);rw [q1];clear q1;have nfb:p1≠b:=Ne.symm (zN hb n1);have Ft:=n1;refine ⟨by show 4<=sizeLine; decide,?_⟩
 intro p2 n2;obtain ⟨H2,q2,s2,e2⟩:=newO n2 (.lst [.int 1,.int 1,.int 2,.int 3]);rw [q2];clear q2;have c9:=s2 _ _ (s1 _ _ hb);have nl:p2≠b:=Ne.symm (zN (s1 _ _ hb) n2);refine ⟨_,rfl,b,4,n,rfl,c9,by decide,er _ (by decide) (by decide),λd3 n3 H3 u3 v3 s3 Fv=>?_⟩
 obtain ⟨bt,ebt,mbt⟩:=Ji [1,1,2,3] d3 u3 v3;have bbt:1<=bt/\bt<=3:=(show ∀ z∈([1,1,2,3]:List Int),1<=z/\z<=3 by decide) bt mbt
 refine ⟨p2,_,_,_,rfl,rfl,SqL.of (s3 _ _ nl e2),ebt,?_⟩;refine ⟨_,rfl,b,9,n3,rfl,Fv,by decide,er _ (by decide) (by decide),λd4 n4 H4 u4 v4 s4 i6=>?_⟩
 have bB:But b H H4:=(But.of (s1.trans s2)).trans (s3.trans s4)
 refine ⟨_,_,rfl,rfl,_,rfl,by omega,by omega,yX (n:=(1+d4).toNat) (λi σ1 H'=>∃ (r4 r5 r6 r7 r8 r9 ka pR pS:Option V) (xs:List V) (gs:List Bq) (nb:Int),σ1=[some (.ref b),some (.ref rp),some (.ref p1),some (.int bt),r4,r5,r6,r7,r8,r9,ka,pR,pS]/\But b H H'/\H' b=some (.lst [.int nb])/\H' p1=some (.lst xs)/\Al2 (BqH K 1990 H') xs gs/\BxsQ R gs)
  ⟨_,_,_,_,_,_,_,_,_,[],[],n4,rfl,bB,i6,s4 _ _ nfb (s3 _ _ nfb (s2 _ _ e1)),trivial,bxs_nil⟩ ?_ ?_⟩
 ·rintro i σ1 H5 Sl ⟨r4,r5,r6,r7,r8,r9,ka,pR,pS,xs,gs,nb,rfl,s5,fv,eA,bY,bq⟩;have gO:SqT K H5 rp [.ref r0,.ref r1]:=But.tup s5 hb hrm;have gP:=But.tup s5 hb gM;have gQ:=But.tup s5 hb i7;have lxg:=Al2.len bY;refine ⟨_,rfl,_,rfl,_,_,rfl,rfl,((Bd.small (i:=(3:Int)) (by decide) (by decide)).ok (Bd.small (i:=bt) (by omega) (by omega)) (by decide)),_,_,_,rfl,fv,(by first|omega|exact Int.mul_pos (by omega) (by omega)),((Bd.mul (Bd.small (i:=(3:Int)) (by decide) (by decide)) (Bd.small (i:=bt) (by omega) (by omega))).mono (by decide)),λfz HY HZ Fw Fx fA kc=>?_⟩
  refine ⟨_,_,rfl,rfl,_,rfl,_,_,rfl,((Bd.small (i:=bt) (by omega) (by omega)).mono (by decide)),(by omega),λp_r501 Ia eK g_r501=>?_⟩
  have cY:=eK _ _ kc;have d_r501:FB 65 (Rat.divInt (((1:Int)+fz)) bt):=(FB.mono (FB.fit (by omega) ((Bd.add ((Bd.small (i:=(1:Int)) (by decide) (by decide)).mono (n:=64) (by decide)) ((Bd.small (i:=fz) (by omega) (by omega)).mono (n:=64) (by decide))).mono (n:=65) (by decide)) ((Bd.small (i:=bt) (by omega) (by omega)).mono (n:=65) (by decide))) (by decide))
  refine ⟨_,rfl,_,rfl,_,_,rfl,rfl,((Bd.small (i:=(3:Int)) (by decide) (by decide)).ok (Bd.small (i:=bt) (by omega) (by omega)) (by decide)),_,_,_,rfl,cY,(by first|omega|exact Int.mul_pos (by omega) (by omega)),((Bd.mul (Bd.small (i:=(3:Int)) (by decide) (by decide)) (Bd.small (i:=bt) (by omega) (by omega))).mono (by decide)),λfD Ib Ic Fy Fz eL kd=>?_⟩
  refine ⟨_,_,rfl,rfl,_,rfl,_,_,rfl,((Bd.small (i:=bt) (by omega) (by omega)).mono (by decide)),(by omega),λp_r504 Id d7 g_r504=>?_⟩
  have cC:=d7 _ _ kd;have d_r504:FB 65 (Rat.divInt (((1:Int)+fD)) bt):=(FB.mono (FB.fit (by omega) ((Bd.add ((Bd.small (i:=(1:Int)) (by decide) (by decide)).mono (n:=64) (by decide)) ((Bd.small (i:=fD) (by omega) (by omega)).mono (n:=64) (by decide))).mono (n:=65) (by decide)) ((Bd.small (i:=bt) (by omega) (by omega)).mono (n:=65) (by decide))) (by decide))
  refine ⟨_,rfl,_,rfl,_,_,rfl,rfl,((Bd.small (i:=(12:Int)) (by decide) (by decide)).ok (Bd.small (i:=bt) (by omega) (by omega)) (by decide)),_,_,_,rfl,cC,(by first|omega|exact Int.mul_pos (by omega) (by omega)),((Bd.mul (Bd.small (i:=(12:Int)) (by decide) (by decide)) (Bd.small (i:=bt) (by omega) (by omega))).mono (by decide)),λgR Ie Ig FA FC d8 ke=>?_⟩
  refine ⟨_,rfl,_,_,rfl,((Bd.small (i:=bt) (by omega) (by omega)).mono (by decide)),(by omega),λp_r507 Ih dC g_r507=>?_⟩
  have bT:=dC _ _ ke;have d_r507:FB 64 (Rat.divInt gR bt):=(FB.mono (FB.fit (by omega) ((Bd.small (i:=gR) (by omega) (by omega)).mono (n:=64) (by decide)) ((Bd.small (i:=bt) (by omega) (by omega)).mono (n:=64) (by decide))) (by decide))
  refine ⟨_,rfl,_,rfl,_,_,rfl,rfl,((Bd.small (i:=(10:Int)) (by decide) (by decide)).ok (Bd.small (i:=bt) (by omega) (by omega)) (by decide)),_,_,_,rfl,bT,(by first|omega|exact Int.mul_pos (by omega) (by omega)),((Bd.mul (Bd.small (i:=(10:Int)) (by decide) (by decide)) (Bd.small (i:=bt) (by omega) (by omega))).mono (by decide)),λgS Ii Ij FD FE dD kg=>?_⟩
  refine ⟨_,rfl,_,_,rfl,((Bd.small (i:=bt) (by omega) (by omega)).mono (by decide)),(by omega),λp_r510 Ik cZ g_r510=>?_⟩
  have bD:=cZ _ _ kg;have d_r510:FB 64 (Rat.divInt gS bt):=(FB.mono (FB.fit (by omega) ((Bd.small (i:=gS) (by omega) (by omega)).mono (n:=64) (by decide)) ((Bd.small (i:=bt) (by omega) (by omega)).mono (n:=64) (by decide))) (by decide))
  refine ⟨_,rfl,_,_,_,rfl,bD,(by decide+kernel),((Bd.small (i:=(9:Int)) (by decide) (by decide)).mono (by decide)),λgT Il Im FF FG c7 fY=>?_⟩
  refine ⟨_,_,rfl,rfl,by show 3<=sizeLine; decide,?_⟩
  intro kh gU;obtain ⟨Io,q513,cJ,e513⟩:=newO gU (.lst [.int ((1:Int)),.int ((1:Int)),.int ((2:Int))]);rw [q513];clear q513;have bE:=cJ _ _ fY;have gW:=SqL.of (K:=K) e513;have ki:kh≠b:=λz=>by rw [z,fY] at gU; cases gU
  refine ⟨_,rfl,_,_,_,rfl,bE,(by decide+kernel),((Bd.small (i:=(3:Int)) (by decide) (by decide)).mono (by decide)),λpT Ip Iq FI FJ cK kj=>?_⟩
  obtain ⟨dE,ev516,m517⟩:=Ji ([(1:Int),(1:Int),(2:Int)]:List Int) pT (by omega) (by show _ < (3:Int); omega)
  have FK:1<=dE/\dE<=2:=(show ∀ z∈([(1:Int),(1:Int),(2:Int)]:List Int),1<=z/\z<=2 by decide+kernel) dE m517
  replace gW:=(But.seq cK ki gW);refine ⟨kh,_,_,_,rfl,rfl,gW,ev516,_,_,rfl,((Bd.small (i:=dE) (by omega) (by omega)).mono (by decide)),(by omega),λp_r518 Ir cM g_r518=>?_⟩
  have bm:=cM _ _ kj;have d_r518:FB 65 (Rat.divInt ((gT - (4:Int))) dE):=(FB.mono (FB.fit (by omega) ((Bd.sub ((Bd.small (i:=gT) (by omega) (by omega)).mono (n:=64) (by decide)) ((Bd.small (i:=(4:Int)) (by decide) (by decide)).mono (n:=64) (by decide))).mono (n:=65) (by decide)) ((Bd.small (i:=dE) (by omega) (by omega)).mono (n:=65) (by decide))) (by decide))
  refine ⟨_,rfl,_,_,_,rfl,bm,(by decide+kernel),((Bd.small (i:=(9:Int)) (by decide) (by decide)).mono (by decide)),λgX Iu Iv FL FM cN fZ=>?_⟩
  refine ⟨_,_,rfl,rfl,by show 3<=sizeLine; decide,?_⟩
  intro kl gY;obtain ⟨Iw,q521,cp,e521⟩:=newO gY (.lst [.int ((1:Int)),.int ((1:Int)),.int ((2:Int))]);rw [q521];clear q521;have bp:=cp _ _ fZ;have gZ:=SqL.of (K:=K) e521;have ko:kl≠b:=λz=>by rw [z,fZ] at gY; cases gY
  refine ⟨_,rfl,_,_,_,rfl,bp,(by decide+kernel),((Bd.small (i:=(3:Int)) (by decide) (by decide)).mono (by decide)),λpU Ix Iy FN FO cu ku=>?_⟩
  obtain ⟨dF,ev524,m525⟩:=Ji ([(1:Int),(1:Int),(2:Int)]:List Int) pU (by omega) (by show _ < (3:Int); omega)
  have FP:1<=dF/\dF<=2:=(show ∀ z∈([(1:Int),(1:Int),(2:Int)]:List Int),1<=z/\z<=2 by decide+kernel) dF m525
  replace gZ:=(But.seq cu ko gZ);refine ⟨kl,_,_,_,rfl,rfl,gZ,ev524,_,_,rfl,((Bd.small (i:=dF) (by omega) (by omega)).mono (by decide)),(by omega),λp_r526 Iz cw g_r526=>?_⟩
  have gf:=cw _ _ ku;have d_r526:FB 65 (Rat.divInt ((gX - (4:Int))) dF):=(FB.mono (FB.fit (by omega) ((Bd.sub ((Bd.small (i:=gX) (by omega) (by omega)).mono (n:=64) (by decide)) ((Bd.small (i:=(4:Int)) (by decide) (by decide)).mono (n:=64) (by decide))).mono (n:=65) (by decide)) ((Bd.small (i:=dF) (by omega) (by omega)).mono (n:=65) (by decide))) (by decide))
  refine ⟨_,rfl,by show 3<=sizeLine; decide,?_⟩
  intro kx g7;obtain ⟨IA,q528,bU,e528⟩:=newO g7 (.lst [.int ((4:Int)),.int ((4:Int)),.int ((1000:Int))]);rw [q528];clear q528;have aY:=bU _ _ gf;have g8:=SqL.of (K:=K) e528;have kz:kx≠b:=λz=>by rw [z,gf] at g7; cases g7
  refine ⟨_,rfl,_,_,_,rfl,aY,(by decide+kernel),((Bd.small (i:=(3:Int)) (by decide) (by decide)).mono (by decide)),λpV IB IC FR FS bV aZ=>?_⟩
  obtain ⟨fE,ev531,m532⟩:=Ji ([(4:Int),(4:Int),(1000:Int)]:List Int) pV (by omega) (by show _ < (3:Int); omega)
  have FT:4<=fE/\fE<=1000:=(show ∀ z∈([(4:Int),(4:Int),(1000:Int)]:List Int),4<=z/\z<=1000 by decide+kernel) fE m532
  replace g8:=(But.seq bV kz g8);refine ⟨kx,_,_,_,rfl,rfl,g8,ev531,_,_,_,rfl,aZ,(by first|omega|exact Int.mul_pos (by omega) (by omega)),((Bd.small (i:=fE) (by omega) (by omega)).mono (by decide)),λfF ID kA FU FV cz kB=>?_⟩
  refine ⟨_,_,rfl,rfl,?_⟩;replace g_r507:=(But.tup cz aZ (But.tup bV aY (Kw.Same.tup bU (Kw.Same.tup cw (But.tup cu bp (Kw.Same.tup cp (But.tup cN bm (Kw.Same.tup cM (But.tup cK bE (Kw.Same.tup cJ (But.tup c7 bD (Kw.Same.tup cZ (But.tup dD bT g_r507)))))))))))));replace g_r510:=(But.tup cz aZ (But.tup bV aY (Kw.Same.tup bU (Kw.Same.tup cw (But.tup cu bp (Kw.Same.tup cp (But.tup cN bm (Kw.Same.tup cM (But.tup cK bE (Kw.Same.tup cJ (But.tup c7 bD g_r510)))))))))));replace g_r501:=(But.tup cz aZ (But.tup bV aY (Kw.Same.tup bU (Kw.Same.tup cw (But.tup cu bp (Kw.Same.tup cp (But.tup cN bm (Kw.Same.tup cM (But.tup cK bE (Kw.Same.tup cJ (But.tup c7 bD (Kw.Same.tup cZ (But.tup dD bT (Kw.Same.tup dC (But.tup d8 cC (Kw.Same.tup d7 (But.tup eL cY g_r501)))))))))))))))));replace g_r504:=(But.tup cz aZ (But.tup bV aY (Kw.Same.tup bU (Kw.Same.tup cw (But.tup cu bp (Kw.Same.tup cp (But.tup cN bm (Kw.Same.tup cM (But.tup cK bE (Kw.Same.tup cJ (But.tup c7 bD (Kw.Same.tup cZ (But.tup dD bT (Kw.Same.tup dC (But.tup d8 cC g_r504)))))))))))))));replace g_r518:=(But.tup cz aZ (But.tup bV aY (Kw.Same.tup bU (Kw.Same.tup cw (But.tup cu bp (Kw.Same.tup cp (But.tup cN bm g_r518)))))));replace g_r526:=(But.tup cz aZ (But.tup bV aY (Kw.Same.tup bU g_r526)));replace gO:=(But.tup cz aZ (But.tup bV aY (Kw.Same.tup bU (Kw.Same.tup cw (But.tup cu bp (Kw.Same.tup cp (But.tup cN bm (Kw.Same.tup cM (But.tup cK bE (Kw.Same.tup cJ (But.tup c7 bD (Kw.Same.tup cZ (But.tup dD bT (Kw.Same.tup dC (But.tup d8 cC (Kw.Same.tup d7 (But.tup eL cY (Kw.Same.tup eK (But.tup fA fv gO)))))))))))))))))));replace gP:=(But.tup cz aZ (But.tup bV aY (Kw.Same.tup bU (Kw.Same.tup cw (But.tup cu bp (Kw.Same.tup cp (But.tup cN bm (Kw.Same.tup cM (But.tup cK bE (Kw.Same.tup cJ (But.tup c7 bD (Kw.Same.tup cZ (But.tup dD bT (Kw.Same.tup dC (But.tup d8 cC (Kw.Same.tup d7 (But.tup eL cY (Kw.Same.tup eK (But.tup fA fv gP)))))))))))))))))));replace gQ:=(But.tup cz aZ (But.tup bV aY (Kw.Same.tup bU (Kw.Same.tup cw (But.tup cu bp (Kw.Same.tup cp (But.tup cN bm (Kw.Same.tup cM (But.tup cK bE (Kw.Same.tup cJ (But.tup c7 bD (Kw.Same.tup cZ (But.tup dD bT (Kw.Same.tup dC (But.tup d8 cC (Kw.Same.tup d7 (But.tup eL cY (Kw.Same.tup eK (But.tup fA fv gQ)))))))))))))))))))
  have sC:But b H5 kA:=(fA.trans ((But.of eK).trans (eL.trans ((But.of d7).trans (d8.trans ((But.of dC).trans (dD.trans ((But.of cZ).trans (c7.trans ((But.of cJ).trans (cK.trans ((But.of cM).trans (cN.trans ((But.of cp).trans (cu.trans ((But.of cw).trans ((But.of bU).trans (bV.trans cz))))))))))))))))));have hfC:=sC _ _ nfb eA;have alC:Al2 (BqH K 1990 kA) xs gs:=bqs_but bY sC fv;have pw:(0:Rat) < (Rat.divInt (((1:Int)+fz)) bt):=Yt (by omega) (by omega)
  have ph:(0:Rat) < (Rat.divInt (((1:Int)+fD)) bt):=Yt (by omega) (by omega)
  refine ⟨_,rfl,_,rfl,_,rfl,_,rfl,_,rfl,_,rfl,_,rfl,by show 7<=sizeLine; decide,?_⟩
  intro fG pW;obtain ⟨kC,q900,bI,e900⟩:=newO pW (.tup [.ref p_r507,.ref p_r510,.ref p_r501,.ref p_r504,.ref p_r518,.ref p_r526,.int (((1:Int)+fF))]);rw [q900];clear q900;obtain ⟨nq,enq⟩:∃ nq:Bq,nq=⟨(Rat.divInt gR bt),(Rat.divInt gS bt),(Rat.divInt (((1:Int)+fz)) bt),(Rat.divInt (((1:Int)+fD)) bt),(Rat.divInt ((gT - (4:Int))) dE),(Rat.divInt ((gX - (4:Int))) dF),some (((1:Int)+fF))⟩:=⟨_,rfl⟩;have w1:1<=(((1:Int)+fF))/\(((1:Int)+fF))<=1000:=⟨by omega,by omega⟩
  have rtb:RtB 42 20 nq:=by
   rw [enq];exact ⟨rt42 (by omega) (by omega) (by omega),rt42 (by omega) (by omega) (by omega),rt42 (by omega) (by omega) (by omega),rt42 (by omega) (by omega) (by omega),rt42 (by omega) (by omega) (by omega),rt42 (by omega) (by omega) (by omega)⟩
  have mq:∃ m:Int,nq.m=some m/\1<=m/\m<=1000:=by
   rw [enq];exact ⟨_,rfl,w1⟩
  have one:BqH K 1990 kC (.ref fG) nq:=by
   have f42:(FB 1990 nq.x/\FB 1990 nq.y/\FB 1990 nq.w/\FB 1990 nq.h/\FB 1990 nq.u/\FB 1990 nq.v):=⟨rtb.1.f42,rtb.2.1.f42,rtb.2.2.1.f42,rtb.2.2.2.1.f42,rtb.2.2.2.2.1.f42,rtb.2.2.2.2.2.f42⟩;rw [enq] at f42 ⊢;exact ⟨fG,_,_,_,_,_,_,rfl,SqT.of e900,⟨Kw.Same.tup bI g_r507,Kw.Same.tup bI g_r510,Kw.Same.tup bI g_r501,Kw.Same.tup bI g_r504,Kw.Same.tup bI g_r518,Kw.Same.tup bI g_r526⟩,f42,λm e=>by cases e; exact w1⟩
  have inv:∀ H',Same kC H'->∃ m:Int,But b H H'/\H' b=some (.lst [.int m])/\H' p1=some (.lst xs)/\Al2 (BqH K 1990 H') xs gs:=λH' sm=>by
   have s7:=bI.trans sm;exact ⟨_,s5.trans (sC.trans (.of s7)),s7 _ _ kB,s7 _ _ hfC,zT alC s7⟩
  have kD:=Kw.Same.tup bI gO;refine ⟨_,rfl,rp,_,_,_,rfl,rfl,kD,rfl,_,rfl,_,rfl,_,_,_,_,rfl,Kw.Same.tup bI g_r507,FB.mono d_r507 (by decide),Kw.Same.tup bI g_r501,FB.mono d_r501 (by decide),λSm fS fR IE=>?_⟩
  refine ⟨_,_,_,_,rfl,Kw.Same.tup (bI.trans fR) gP,i8.mono (by decide),IE,(FB.add d_r507 d_r501).mono (by decide),λSn IF=>⟨_,rfl,?_⟩⟩
  have nL:=fR.trans IF;refine Zb (λcA=>?_) (λcA=>?_)
  rotate_left
  ·refine iteF ?_;obtain ⟨m,z1,z2,z3,z4⟩:=inv _ nL;exact ⟨_,_,_,_,_,_,_,_,_,xs,gs,m,rfl,z1,z2,z3,z4,bq⟩
  have kE:=Kw.Same.tup nL kD;have pX:=bI.trans nL;refine ⟨_,rfl,rp,_,_,_,rfl,rfl,kE,rfl,_,rfl,_,rfl,_,_,_,_,rfl,Kw.Same.tup pX g_r510,FB.mono d_r510 (by decide),Kw.Same.tup pX g_r504,FB.mono d_r504 (by decide),λSo Sq FW IG=>?_⟩
  refine ⟨_,_,_,_,rfl,Kw.Same.tup (pX.trans FW) gQ,i9.mono (by decide),IG,(FB.add d_r510 d_r504).mono (by decide),λIH II=>⟨_,rfl,?_⟩⟩
  have nM:=nL.trans (FW.trans II);refine Zb (λcB=>?_) (λcB=>?_)
  rotate_left
  ·obtain ⟨m,z1,z2,z3,z4⟩:=inv _ nM;exact ⟨_,_,_,_,_,_,_,_,_,xs,gs,m,rfl,z1,z2,z3,z4,bq⟩
  obtain ⟨IJ,b74,hb74,fH,al74⟩:=inv _ nM;have l6:=bq.1;refine ⟨_,rfl,_,_,rfl,.inl ⟨_,SqL.of fH,rfl⟩,_,_,rfl,rfl,_,rfl,?_⟩;refine zd (λc6=>?_) (λc6=>?_)
  rotate_left
  ·exact iteF ⟨_,_,_,_,_,_,_,_,_,xs,gs,IJ,rfl,b74,hb74,fH,al74,bq⟩
  refine ⟨_,rfl,p1,rfl,⟨_,SqL.of fH⟩,jJ (K:=K) (xs:=xs) (λi ys H'=>Same IH H'/\i<=gs.length/\ys=((gs.take i).map λc=>!(hicB nq c 0 && hicB nq c 1)).map V.bl) ⟨Same.refl _,Nat.zero_le _,rfl⟩ (by rw [sizeLine_eq]; omega) (λi ys H' ⟨_,l,e⟩=>by rw [e,List.length_map,List.length_map,List.length_take]; omega) (λi ys H' ⟨g,_⟩=>SqL.of (g _ _ fH)) ?_ ?_⟩
  ·rintro i y ys H' Q' hy ⟨g,li,rfl⟩ kk;obtain ⟨kb,hkb,hbx⟩:=Al2.get al74 hy;have lt:i < gs.length:=(List.getElem?_eq_some_iff.mp hkb).1;refine ⟨_,rfl,_,rfl,_,_,_,kb,1990,rfl,one.same (nM.trans g),hbx.same g,by decide,λSr IK=>kk _ _ ⟨g.trans IK,lt,by rw [zU hkb,List.map_append,List.map_append]; rfl⟩⟩
  ·rintro ys H' ⟨g,_,rfl⟩;rw [lxg,List.take_length];intro IL IM;obtain ⟨IN,q75,IO,e75⟩:=newO IM (.lst ((gs.map λc=>!(hicB nq c 0 && hicB nq c 1)).map V.bl))
   rw [q75];clear q75;have FX:=nM.trans (g.trans IO);obtain ⟨FY,FZ,kF,fI,kG⟩:=inv _ FX;refine ⟨IL,_,rfl,SqL.of e75,_,rfl,?_⟩;generalize hca:List.all _ id=ca;cases ca with
   |false=>exact iteF ⟨_,_,_,_,_,_,_,_,_,xs,gs,FY,rfl,FZ,kF,fI,kG,bq⟩
   |true=>
    refine iteT ⟨_,rfl,.inl ⟨rfl,_,SqL.of fI⟩,_,rfl,p1,_,_,rfl,rfl,fI,by rw [sizeLine_eq]; omega,?_⟩
    obtain ⟨IP,Ga,pY,e76⟩:=newB (H:=IN) (p:=p1) (.lst (xs++[.ref fG]));dsimp only;rw [Ga];clear Ga;have kH:But b H IP:=λa o na ho=>pY a o (zN ho Ft) (FZ a o na ho)
    have apt:∀ c∈gs,(!(hicB nq c 0 && hicB nq c 1))=true:=λc hc=>List.all_eq_true.mp hca _ (List.mem_map.mpr ⟨c,hc,rfl⟩)
    have inr:InR R nq:=by
     rw [enq];exact ⟨pw,ph,q_divnn (by omega) (by omega),q_divnn (by omega) (by omega),Rat.not_lt.mp cA,Rat.not_lt.mp cB⟩
    exact ⟨_,_,_,_,_,_,_,_,_,xs++[.ref fG],gs++[nq],FY,rfl,kH,pY _ _ (Ne.symm nfb) kF,e76,bqs_but (Al2.snoc kG (one.same FX)) pY fI,bxs_snoc bq (by omega) inr rtb mq apt⟩
 ·rintro σ1 H5 ⟨r4,r5,r6,r7,r8,r9,ka,pR,pS,xs,gs,nb,rfl,s5,fv,eA,bY,bq⟩;refine ⟨_,rfl,by show 0<=sizeLine; decide,?_⟩
  intro IQ iU;obtain ⟨IR,Gb,g9,e80⟩:=newO iU (.lst []);rw [Gb];clear Gb;refine ⟨p1,IQ,xs,rfl,rfl,SqL.of (g9 _ _ eA),SqL.of e80,_,rfl,?_⟩;cases xs with
  |nil=>
   refine iteT ?_;refine ⟨by show 2<=sizeLine; decide,?_⟩
   intro IS IT;obtain ⟨Ss,q81,Gc,IU⟩:=newO IT (.tup [.int 1,.int 1]);rw [q81];clear q81;refine ⟨by show 2<=sizeLine; decide,?_⟩
   intro IV IW;obtain ⟨Su,q82,Gd,IX⟩:=newO IW (.tup [.int 1,.int 1]);rw [q82];clear q82;refine ⟨by show 2<=sizeLine; decide,?_⟩
   intro IY IZ;obtain ⟨Sv,q83,Ge,I0⟩:=newO IZ (.tup [.int 1,.int 1]);rw [q83];clear q83;refine ⟨by show 2<=sizeLine; decide,?_⟩
   intro Ka nK;obtain ⟨Sw,q84,Gf,Kb⟩:=newO nK (.tup [.int 1,.int 2]);rw [q84];clear q84;refine ⟨by show 2<=sizeLine; decide,?_⟩
   intro Kc Kd;obtain ⟨Sx,q85,Gg,Ke⟩:=newO Kd (.tup [.int 1,.int 1]);rw [q85];clear q85;refine ⟨by show 2<=sizeLine; decide,?_⟩
   intro Kf Kg;obtain ⟨Sy,q86,Gh,Kh⟩:=newO Kg (.tup [.int 2,.int 1]);rw [q86];clear q86;refine ⟨by show 7<=sizeLine; decide,?_⟩
   intro nN Ki;obtain ⟨Sz,q87,Gi,Kj⟩:=newO Ki (.tup [.ref IS,.ref IV,.ref IY,.ref Ka,.ref Kc,.ref Kf,.int 3]);rw [q87];clear q87;refine ⟨by show 1<=sizeLine; decide,?_⟩
   intro pZ qa;obtain ⟨Gj,Gk,s88,Kk⟩:=newO qa (.lst [.ref nN]);rw [Gk];clear Gk;have Gm:=s88;have Gn:=Gi.trans Gm;have Go:=Gh.trans Gn;have Gp:=Gg.trans Go;have Gq:=Gf.trans Gp;have Gr:=Ge.trans Gq;have Gs:=Gd.trans Gr;have Gu:=g9.trans (Gc.trans Gs);have Gv:=(g9.trans (Gc.trans (Gd.trans (Ge.trans (Gf.trans (Gg.trans (Gh.trans Gi)))))));have nlb:pZ≠b:=Ne.symm (zN (Gv _ _ fv) qa);have n0:H pZ=none:=YB s5 (jG Gv qa) nlb;have b1:=bxs_one rmq;obtain ⟨_,⟨r0',r1',r2',r3',r4',r5'⟩,_⟩:=b1.2.1 bx0 (by simp)
   have bx:BqH K 1990 Gj (.ref nN) bx0:=⟨nN,_,_,_,_,_,_,rfl,SqT.of (Gm _ _ Kj),⟨SqT.of (Gs _ _ IU),SqT.of (Gr _ _ IX),SqT.of (Gq _ _ I0),FH.fq (FH.lit (Gp _ _ Kb) (by decide) (by decide)),SqT.of (Go _ _ Ke),SqT.of (Gn _ _ Kh)⟩,⟨r0'.f42,r1'.f42,r2'.f42,r3'.f42,r4'.f42,r5'.f42⟩,λm e=>by cases e; decide⟩
   exact q pZ [.ref nN] [bx0] nb Gj (s5.trans (.of Gu)) (Gu _ _ fv) nlb n0 Kk ⟨bx,trivial⟩ (by simp) b1
  |cons x xr=>
   refine iteF ⟨_,rfl,?_⟩;have lx:=Al2.len bY;exact q p1 _ gs nb IR (s5.trans (.of g9)) (g9 _ _ fv) nfb Ft (g9 _ _ eA) (zT bY g9) (by rw [<- lx]; simp) bq
noncomputable def ZJ (K:Frag):Sp:=λvs H Q _=>∃ (z:V) (b:Bq) (N:Nat),vs=[z]/\BqH K N H z b/\∀ (p:Addr) (H1:Hp),Same H H1->BqH K N H1 (.ref p) (xB b)->Q (.ref p) H1
theorem sc_law_exchanged:FnScope ["one"] ["one"] (zD (top 79)):={}
theorem ok_law_exchanged (D:Df K mg "_law_exchanged" (top 79) ["one"]) (T:Tx K mg C):Fn P w K mg base 1 "_law_exchanged" ["one"] (ZJ K):=by
 refine D.ok0 sc_law_exchanged (λvs H Q E h=>?_) (λf cdv A outer s H vs Q E hr h=>?_)
 ·obtain ⟨z,b,N,rfl,_⟩:=h;rfl
 obtain ⟨z,b,N,rfl,hz,k⟩:=h;refine ⟨_,(zF (zL (zQ (zA (zH ix_tup (pv 0) zC (λ_ _=>rfl)) (zA (zH ix_tup (pv 0) zC (λ_ _=>rfl)) (zA (zH ix_tup (pv 0) zC (λ_ _=>rfl)) (zA (zH ix_tup (pv 0) zC (λ_ _=>rfl)) (zA (zH ix_tup (pv 0) zC (λ_ _=>rfl)) (zA (zH ix_tup (pv 0) zC (λ_ _=>rfl)) (zA (zH ix_tup (pv 0) zC (λ_ _=>rfl)) zB)))))))))),?_⟩
 try dsimp only [cxK,cxK0]
 obtain ⟨p,a0,a1,a2,a3,a4,a5,rfl,hp,⟨g0,g1,g2,g3,g4,g5⟩,⟨d0,d1,d2,d3,d4,d5⟩,hm⟩:=hz;refine ⟨_,rfl,p,_,_,_,rfl,rfl,hp,rfl,_,rfl,p,_,_,_,rfl,rfl,hp,rfl,_,rfl,p,_,_,_,rfl,rfl,hp,rfl,_,rfl,p,_,_,_,rfl,rfl,hp,rfl,_,rfl,p,_,_,_,rfl,rfl,hp,rfl,_,rfl,p,_,_,_,rfl,rfl,hp,rfl,_,rfl,p,_,_,_,rfl,rfl,hp,rfl,by show 7<=sizeLine; decide,?_⟩
 intro p1 n1;obtain ⟨H1,q1,s1,e1⟩:=newO n1 (.tup [.ref a1,.ref a0,.ref a3,.ref a2,.ref a5,.ref a4,wV b.m]);rw [q1];clear q1;exact k p1 H1 s1 ⟨p1,a1,a0,a3,a2,a5,a4,rfl,SqT.of e1,⟨Kw.Same.tup s1 g1,Kw.Same.tup s1 g0,Kw.Same.tup s1 g3,Kw.Same.tup s1 g2,Kw.Same.tup s1 g5,Kw.Same.tup s1 g4⟩,⟨d1,d0,d3,d2,d5,d4⟩,hm⟩
theorem fq_neg {K:Frag} {H:Hp} {p:Addr} {v:Rat} (h:SqT K H p [.int (0 - v.num),.int ((v.den:Nat):Int)]):FQ K H p (-v):=by
 rw [show 0 - v.num=-v.num by omega] at h
 exact h
noncomputable def Zf (K:Frag):Sp:=λvs H Q _=>∃ (z:V) (b:Bq) (N M:Nat) (rp r0 r1:Addr) (R:Rat × Rat),vs=[z,.ref rp]/\BqH K N H z b/\SqT K H rp [.ref r0,.ref r1]/\FQ K H r0 R.1/\FB 20 R.1/\N<=2300/\FB M (mB R b).x/\FB M b.y/\∀ (p:Addr) (H1:Hp),Same H H1->BqH K M H1 (.ref p) (mB R b)->Q (.ref p) H1
theorem Zi:FnScope ["one","room","left"] ["one","room"] (zD (top 80)):={}
theorem ok_law_mirrored (D:Df K mg "_law_mirrored" (top 80) ["one","room"]) (T:Tx K mg C) (bF:Fn P w K mg base 2 "_law_minus" ["one","other"] (Yk K)):Fn P w K mg base 3 "_law_mirrored" ["one","room"] (Zf K):=by
 refine D.ok0 Zi (λvs H Q E h=>?_) (λf cdv A outer s H vs Q E hr h=>?_)
 ·obtain ⟨z,b,N,M,rp,r0,r1,R,rfl,_⟩:=h;rfl
 obtain ⟨z,b,N,M,rp,r0,r1,R,rfl,hz,hrm,gM,ix,hN,fx,fy,k⟩:=h
 refine ⟨_,(zE (zM (i:=2) Zi.nd rfl (Or.inl rfl) (zI bF (by decide) hr (by rfl) zG (zA (zI bF (by decide) hr (by rfl) zG (zA (zH ix_tup (pv 1) zC (λ_ _=>rfl)) (zA (zH ix_tup (pv 0) zC (λ_ _=>rfl)) zB))) (zA (zH ix_tup (pv 0) zC (λ_ _=>rfl)) zB))))
   (zF (zL (zP (Y3 (K:=K) rfl) (zP (Y3 (K:=K) rfl) (zP (Y3 (K:=K) rfl) (zQ (zA (pv 2) zB)) (Y9 (Jq (K:=K) rfl) (pv 0) (Yw zC) (Yw zC))) (zQ (zA (zQ (zA (zP ZW zC (zH ix_tup (zH ix_tup (pv 0) zC (λ_ _=>rfl)) zC (λ_ _=>rfl))) (zA (zH ix_tup (zH ix_tup (pv 0) zC (λ_ _=>rfl)) zC (λ_ _=>rfl)) zB))) zB))) (Y9 (Jq (K:=K) rfl) (pv 0) (Yw zC) po_none))))),?_⟩
 try dsimp only [cxK,cxK0]
 obtain ⟨p,a0,a1,a2,a3,a4,a5,rfl,hp,⟨g0,g1,g2,g3,g4,g5⟩,⟨d0,d1,d2,d3,d4,d5⟩,hm⟩:=hz;refine ⟨_,rfl,rp,_,_,_,rfl,rfl,hrm,rfl,_,rfl,p,_,_,_,rfl,rfl,hp,rfl,_,_,_,_,rfl,gM,ix.mono (by decide),g0,d0.mono (by omega),λr2 H2 s2 e2=>?_⟩
 have cG:=Kw.Same.tup s2 hp;have f2:FB 2321 (R.1 - b.x):=(ix.sub d0).mono (by omega)
 refine ⟨_,rfl,p,_,_,_,rfl,rfl,cG,rfl,_,_,_,_,rfl,e2,f2.mono (by decide),Kw.Same.tup s2 g2,d2.mono (by decide),λr3 H3 s3 e3=>?_⟩
 have bZ:=s2.trans s3;refine ⟨_,rfl,by show 1<=sizeLine; decide,?_⟩
 intro p4 n4;obtain ⟨H4,q4,s4,e4⟩:=newO n4 (.tup [.ref r3]);rw [q4];clear q4;have Kl:=Kw.Same.tup (bZ.trans s4) hp;refine ⟨_,rfl,_,rfl,_,rfl,p,_,rfl,Kl,(λz=>absurd z.1 (by show ¬ HT.sIx 7 0 (some 1)=0; decide)),?_⟩
 intro p5 n5;obtain ⟨H5,q5,s5,e5⟩:=newO n5 (.tup (cutV [.ref a0,.ref a1,.ref a2,.ref a3,.ref a4,.ref a5,wV b.m] (some 1) (some 4)));rw [q5];clear q5;have nc:H5 p5=some (.tup [.ref a1,.ref a2,.ref a3]):=e5;refine ⟨p4,p5,_,_,rfl,rfl,SqT.of (s5 _ _ e4),SqT.of nc,by show 4<=sizeLine; decide,λz=>(nomatch z),λ_ z=>(nomatch z),λ_ _=>?_⟩
 intro p6 n6;obtain ⟨H6,q6,s6,e6⟩:=newO n6 (.tup ([.ref r3]++[.ref a1,.ref a2,.ref a3]));rw [q6];clear q6;have fk:=s4.trans (s5.trans s6);have gF:=Kw.Same.tup (bZ.trans fk) hp;have Gw:SqT K H6 a4 [.int b.u.num,.int ((b.u.den:Nat):Int)]:=Kw.Same.tup (bZ.trans fk) g4;refine ⟨_,rfl,p,_,_,_,rfl,rfl,gF,rfl,a4,_,_,_,rfl,rfl,Gw,rfl,_,_,rfl,rfl,_,rfl,p,_,_,_,rfl,rfl,gF,rfl,a4,_,_,_,rfl,rfl,Gw,rfl,by show 2<=sizeLine; decide,?_⟩
 intro p7 n7;obtain ⟨H7,q7,s7,e7⟩:=newO n7 (.tup [.int (0 - b.u.num),.int ((b.u.den:Nat):Int)]);rw [q7];clear q7;refine ⟨by show 1<=sizeLine; decide,?_⟩
 intro p8 n8;obtain ⟨H8,q8,s8,e8⟩:=newO n8 (.tup [.ref p7]);rw [q8];clear q8;refine ⟨p6,p8,_,_,rfl,rfl,SqT.of ((s7.trans s8) _ _ e6),SqT.of e8,by show 5<=sizeLine; decide,λz=>(nomatch z),λ_ z=>(nomatch z),λ_ _=>?_⟩
 intro p9 n9;obtain ⟨H9,q9,s9,e9⟩:=newO n9 (.tup ([.ref r3]++[.ref a1,.ref a2,.ref a3]++[.ref p7]));rw [q9];clear q9;have nu:=s7.trans (s8.trans s9);have Km:=Kw.Same.tup nu gF;refine ⟨_,rfl,_,rfl,p,_,rfl,Km,cut_gt (n:=7) (by decide) (by decide),?_⟩
 intro nE io;obtain ⟨bC,gA,aX,iq⟩:=newO io (.tup (cutV [.ref a0,.ref a1,.ref a2,.ref a3,.ref a4,.ref a5,wV b.m] (some 5) none));rw [gA];clear gA;have qb:bC nE=some (.tup [.ref a5,wV b.m]):=iq;refine ⟨p9,nE,_,_,rfl,rfl,SqT.of (aX _ _ e9),SqT.of qb,by show 7<=sizeLine; decide,λz=>(nomatch z),λ_ z=>(nomatch z),λ_ _=>?_⟩
 intro eD gB;obtain ⟨b6,dW,bJ,gC⟩:=newO gB (.tup ([.ref r3]++[.ref a1,.ref a2,.ref a3]++[.ref p7]++[.ref a5,wV b.m]));rw [dW];clear dW;have kI:=s8.trans (s9.trans (aX.trans bJ));have kJ:=fk.trans (s7.trans kI);have eM:=bZ.trans kJ;refine k eD b6 eM ⟨eD,r3,a1,a2,a3,p7,a5,rfl,SqT.of gC,⟨Kw.Same.tup kJ e3,Kw.Same.tup eM g1,Kw.Same.tup eM g2,Kw.Same.tup eM g3,Kw.Same.tup kI (fq_neg (SqT.of e7)),Kw.Same.tup eM g5⟩,⟨fx,fy,d2,d3,FB.neg d4,d5⟩,hm⟩
noncomputable def RwH (K:Frag) (H:Hp) (v:V) (m:Rat × Pr):Prop:=∃ r a:Addr,v=.ref r/\SqT K H r [.ref a,.int (m.2.1:Int),.int m.2.2.1,.int m.2.2.2]/\FQ K H a m.1/\FB 2000 m.1
theorem yu {K:Frag} {H H':Hp} {vs:List V} {ms:List (Rat × Pr)} (h:Al2 (RwH K H) vs ms) (s:Same H H'):Al2 (RwH K H') vs ms:=Al2.imp (λ_ _ ⟨r,a,e,h1,h2,h3⟩=>⟨r,a,e,Kw.Same.tup s h1,Kw.Same.tup s h2,h3⟩) h
theorem rows_s {K:Frag} {H:Hp} {t:Rat}:∀ (vs:List V) (ds:List Pr),Al2 (RwH K H) vs (ds.map λp=>(t,p))->Al2 (RowS K H false [frd t]) vs (ds.map keyI)
 |[],[],_=>trivial
 |[],_::_,z=>z.elim
 |_::_,[],z=>z.elim
 |v::vs,p::ds,z=>by
  obtain ⟨⟨r,a,e,h1,h2,_⟩,y⟩:=z;exact ⟨⟨r,[.ref a],e,h1,.cons (FQ.dp h2) .nil,a,[],_,rfl,h2⟩,rows_s vs ds y⟩
theorem wd_at {d:Nat} (h:d<=1):atI [V.str (Str.ofString "across"),.str (Str.ofString "along")] (d:Int)=some (wdP d):=by
 rcases d01 h with rfl|rfl<;>rfl
noncomputable def ZF (K:Frag):Sp:=λvs H Q _=>∃ (l:Addr) (zs:List V) (ms ms':List (Rat × Pr)),vs=[.ref l]/\H l=some (.lst zs)/\Al2 (MtP K H) zs ms/\(∀ m∈ms,m.2.1<=1)/\(∀ m∈ms',m.2.1<=1)/\GrpS ms ms'/\ms.length<=60/\∀ (l2:Addr) (ys:List V) (H1:Hp),Same H H1->H1 l2=some (.lst ys)->Al2 (MtP K H1) ys ms'->Q (.ref l2) H1
theorem yj:FnScope ["run","found","rows"] ["run"] (zD (top 81)):={}
theorem ok_law_sorted (D:Df K mg "_law_sorted" (top 81) ["run"]) (T:Tx K mg C):Fn P w K mg base 1 "_law_sorted" ["run"] (ZF K):=by
 refine D.ok0 yj (λvs H Q E h=>?_) (λf cdv A outer s H vs Q E hr h=>?_)
 ·obtain ⟨l,zs,ms,ms',rfl,_⟩:=h;rfl
 obtain ⟨l,zs,ms,ms',rfl,hl,al,wy,wy',grp,iT,k⟩:=h
 refine ⟨_,(zE (zM (i:=1) yj.nd rfl (Or.inl rfl) (yL zB))
   (zE (@zM _ _ 2 _ _ _ _ yj.nd rfl (Or.inr rfl) (@pe_lcG _ _ _ _ _ ["now","way","one","other"] _ _ _ _ _ _ _ [] [] rfl (zo (pv 0)) rfl (by decide) rfl (by decide) (λC z Hc fp=>pg_tupK (K:=K) rfl (n:=4) rfl (ze (zV (i:=0) (show ((["now","way","one","other"]:List Str)++([]:List Str)).Nodup by decide) rfl (.inl (lookup_relabel_local rfl)) (.inr (lookup_relabel_local rfl))) (ze (zV (i:=1) (show ((["now","way","one","other"]:List Str)++([]:List Str)).Nodup by decide) rfl (.inl (lookup_relabel_local rfl)) (.inr (lookup_relabel_local rfl))) (ze (zV (i:=2) (show ((["now","way","one","other"]:List Str)++([]:List Str)).Nodup by decide) rfl (.inl (lookup_relabel_local rfl)) (.inr (lookup_relabel_local rfl))) (ze (zV (i:=3) (show ((["now","way","one","other"]:List Str)++([]:List Str)).Nodup by decide) rfl (.inl (lookup_relabel_local rfl)) (.inr (lookup_relabel_local rfl))) YN))))) yx (λ_ _ h=>nomatch h) (jV rfl) (λC z Hc fp=>Jo) (λC z Hc fp=>(zQ (zA (pv 0) (zA (pe_bmD (K:=K) rfl PySem.F.plainAttrs_list PySem.F.slot_list_index PySem.F.type_list_index mt_indexS (yL (zA jc (zA jc zB))) (zA (pv 1) zB)) (zA (pv 2) (zA (pv 3) zB)))))) (λ_=>rfl)) rfl (by first|exact .inl rfl|exact .inr rfl))
   (zE (Z2 PassesOwn.never (zR (op_neNil (K:=K) rfl (u100 hr)) (pv 2) (yL zB) (zS _)) (zE (zM (i:=1) yj.nd rfl (Or.inl rfl) (zP op_cat (pv 1) (zY (call_sortedT (K:=K) rfl (u100 hr)) (by rfl) T.b_sorted PyProof.Rows.Boot.«sorted» (zA (@pe_lcT _ _ _ _ _ _ _ _ _ _ _ _ ["rows"] [2] rfl (zo (pv 2)) rfl (by decide) rfl (by decide) rfl (by decide) (jA (j:=2) rfl rfl rfl rfl (.inl rfl)) (λy c h=>h) (ja rfl) (λC z Hc fp=>Y8 (zR (op_eqQ (K:=K) rfl (u100 hr)) (zH (ixT (K:=K) rfl) (pv 0) zC (λ_ _=>rfl)) (zH (ixT (K:=K) rfl) (zH (ixL (K:=K) rfl) (pv 1) zC (λ_ _=>rfl)) zC (λ_ _=>rfl)) (zS _))) (λC z Hc fp=>(pv 0)) (λ_=>rfl)) zB))))
   (zF (@zM _ _ 2 _ _ _ _ yj.nd rfl (Or.inr rfl) (@pe_lcT _ _ _ _ _ _ _ _ _ _ _ _ ["rows"] [2] rfl (zo (pv 2)) rfl (by decide) rfl (by decide) rfl (by decide) (jA (j:=2) rfl rfl rfl rfl (.inl rfl)) (λy c h=>h) (ja rfl) (λC z Hc fp=>Y8 (zR (op_neQ (K:=K) rfl (u100 hr)) (zH (ixT (K:=K) rfl) (pv 0) zC (λ_ _=>rfl)) (zH (ixT (K:=K) rfl) (zH (ixL (K:=K) rfl) (pv 1) zC (λ_ _=>rfl)) zC (λ_ _=>rfl)) (zS _))) (λC z Hc fp=>(pv 0)) (λ_=>rfl)) rfl (by first|exact .inl rfl|exact .inr rfl)))))
   (zF (zL (@pe_lcG _ _ _ _ _ ["now","way","one","other"] _ _ _ _ _ _ _ [] [] rfl (zo (pv 1)) rfl (by decide) rfl (by decide) (λC z Hc fp=>pg_tupK (K:=K) rfl (n:=4) rfl (ze (zV (i:=0) (show ((["now","way","one","other"]:List Str)++([]:List Str)).Nodup by decide) rfl (.inl (lookup_relabel_local rfl)) (.inr (lookup_relabel_local rfl))) (ze (zV (i:=1) (show ((["now","way","one","other"]:List Str)++([]:List Str)).Nodup by decide) rfl (.inl (lookup_relabel_local rfl)) (.inr (lookup_relabel_local rfl))) (ze (zV (i:=2) (show ((["now","way","one","other"]:List Str)++([]:List Str)).Nodup by decide) rfl (.inl (lookup_relabel_local rfl)) (.inr (lookup_relabel_local rfl))) (ze (zV (i:=3) (show ((["now","way","one","other"]:List Str)++([]:List Str)).Nodup by decide) rfl (.inl (lookup_relabel_local rfl)) (.inr (lookup_relabel_local rfl))) YN))))) yx (λ_ _ h=>nomatch h) (jV rfl) (λC z Hc fp=>Jo) (λC z Hc fp=>(zQ (zA (pv 0) (zA (zH (ixL (K:=K) rfl) (yL (zA jc (zA jc zB))) (pv 1) (λ_ _=>rfl)) (zA (pv 2) (zA (pv 3) zB)))))) (λ_=>rfl))))))),?_⟩
 try dsimp only [cxK,cxK0]
 have lz:=Al2.len al;refine ⟨by show 0<=sizeLine; decide,?_⟩
 intro p1 n1;obtain ⟨H1,q1,s1,e1⟩:=newO n1 (.lst []);rw [q1];clear q1;have eW:=s1 _ _ hl;refine ⟨_,rfl,l,rfl,⟨_,SqL.of eW⟩,Jv (K:=K) (xs:=zs) (λi ys H'=>i<=zs.length/\Same H1 H'/\Al2 (RwH K H') ys (ms.take i)) ⟨Nat.zero_le _,Same.refl _,trivial⟩ (by rw [sizeLine_eq]; omega) (λi ys H' z=>by obtain ⟨l,_,e⟩:=z; have:=Al2.len e; rw [List.length_take] at this; omega) (λi ys H' z=>by obtain ⟨_,g',_⟩:=z; exact SqL.of (g' _ _ eW)) ?_ ?_⟩
 ·rintro i x ys H2 Q1 loc ll hx ⟨hi,s2,hy⟩ kq;have hi:i < zs.length:=(List.getElem?_eq_some_iff.mp hx).1;obtain ⟨x',hm,pv,pt,rfl,hpv,gt,ft⟩:=Al2.get (zp (zp al s1) s2) hx;obtain ⟨k1,k2,k3,k4,rfl⟩:∃ k1 k2 k3 k4,loc=[k1,k2,k3,k4]:=match loc,ll with|[k1,k2,k3,k4],_=>⟨k1,k2,k3,k4,rfl⟩
  have wx:=wy x' (List.mem_of_getElem? hm);refine ⟨pv,_,rfl,hpv,rfl,_,_,rfl,_,_,rfl,_,_,rfl,_,_,rfl,rfl,?_⟩;refine ⟨⟨[some (.ref pt),some (wdP x'.2.1),some (.int x'.2.2.1),some (.int x'.2.2.2)],rfl,rfl⟩,?_⟩;refine ⟨_,rfl,by show 2<=sizeLine; decide,?_⟩
  intro p3 n3;obtain ⟨H3,q3,s3,e3⟩:=newO n3 (.lst [.str (Str.ofString "across"),.str (Str.ofString "along")]);rw [q3];clear q3;obtain ⟨kw,ekw,hkw,hno⟩:∃ kw:Str,wdP x'.2.1=.str kw/\([Str.ofString "across",Str.ofString "along"]:List Str)[x'.2.1]?=some kw/\∀ i,i < x'.2.1->∀ y,([Str.ofString "across",Str.ofString "along"]:List Str)[i]?=some y->(y == kw)=false:=by
   rcases d01 wx with e|e
   ·rw [e]; exact ⟨_,rfl,rfl,λi hi=>absurd hi (Nat.not_lt_zero _)⟩
   ·rw [e];refine ⟨_,rfl,rfl,λi hi y hy=>?_⟩
    have:i=0:=by omega
    subst this;cases hy
    decide
  refine ⟨.inl ⟨rfl,_,SqL.of e3⟩,_,rfl,p3,[Str.ofString "across",Str.ofString "along"],kw,x'.2.1,rfl,by rw [ekw],e3,hkw,hno,_,rfl,_,rfl,by show 4<=sizeLine; decide,?_⟩
  intro p4 n4;obtain ⟨H4,q4,s4,e4⟩:=newO n4 (.tup [.ref pt,.int (x'.2.1:Int),.int x'.2.2.1,.int x'.2.2.2]);rw [q4];clear q4;have eQ:=s3.trans s4;refine kq _ _ ⟨hi,s2.trans eQ,?_⟩;rw [zU hm];exact Al2.snoc (yu hy eQ) ⟨p4,pt,rfl,SqT.of e4,Kw.Same.tup eQ gt,ft⟩
 rintro hE H2 ⟨_,s2,hy2⟩ p3 n3;rw [lz,List.take_length] at hy2;obtain ⟨H3,q3,s3,e3⟩:=newO n3 (.lst hE);rw [q3];clear q3;have bZ:=s1.trans (s2.trans s3);refine ⟨λm σ' H'=>∃ (f r:Addr) (fs rs:List V) (fx rx rx':List (Rat × Pr)),σ'=[some (.ref l),some (.ref f),some (.ref r)]/\Same H3 H'/\H' f=some (.lst fs)/\H' r=some (.lst rs)/\Al2 (RwH K H') fs fx/\Al2 (RwH K H') rs rx/\GrpS rx rx'/\fx++rx'=ms'/\fx.length+rx.length=ms.length/\m=rx.length,⟨_,p1,p3,[],hE,[],ms,ms',rfl,Same.refl _,(s2.trans s3) _ _ e1,e3,trivial,yu hy2 s3,grp,rfl,by simp,rfl⟩,?_⟩
 rintro m σ' H4 ⟨f,r,fs,rs,fx,rx,rx',rfl,s4,hf,ib,af,ar,g,eq,len,rfl⟩;have lf:=Al2.len af;have lr:=Al2.len ar;refine ⟨_,rfl,by show 0<=sizeLine; decide,?_⟩
 intro p5 n5;obtain ⟨H5,q5,s5,e5⟩:=newO n5 (.lst []);rw [q5];clear q5;refine ⟨r,p5,rs,rfl,rfl,SqL.of (s5 _ _ ib),SqL.of e5,_,rfl,?_⟩;cases g with
 |nil=>
  refine iteFz (by rw [List.eq_nil_of_length_eq_zero lr]; rfl) ?_
  rw [List.append_nil] at eq;have eA:=s5 _ _ hf;have Kn:=yu af s5;refine ⟨_,rfl,f,rfl,⟨_,SqL.of eA⟩,Jv (K:=K) (xs:=fs) (λi ys H'=>i<=fs.length/\Same H5 H'/\Al2 (MtP K H') ys (fx.take i)) ⟨Nat.zero_le _,Same.refl _,trivial⟩ (by rw [sizeLine_eq]; omega) (λi ys H' z=>by obtain ⟨l,_,e⟩:=z; have:=Al2.len e; rw [List.length_take] at this; omega) (λi ys H' z=>by obtain ⟨_,g',_⟩:=z; exact SqL.of (g' _ _ eA)) ?_ ?_⟩
  ·rintro i x ys H6 Q1 loc ll hx ⟨hi,s6,hy⟩ kq;have hi:i < fs.length:=(List.getElem?_eq_some_iff.mp hx).1;obtain ⟨x',hm,pv,pt,rfl,hpv,gt,ft⟩:=Al2.get (yu Kn s6) hx;obtain ⟨k1,k2,k3,k4,rfl⟩:∃ k1 k2 k3 k4,loc=[k1,k2,k3,k4]:=match loc,ll with|[k1,k2,k3,k4],_=>⟨k1,k2,k3,k4,rfl⟩
   have wx:=wy' x' (eq▸List.mem_of_getElem? hm);refine ⟨pv,_,rfl,hpv,rfl,_,_,rfl,_,_,rfl,_,_,rfl,_,_,rfl,rfl,?_⟩;refine ⟨⟨[some (.ref pt),some (.int (x'.2.1:Int)),some (.int x'.2.2.1),some (.int x'.2.2.2)],rfl,rfl⟩,?_⟩;refine ⟨_,rfl,by show 2<=sizeLine; decide,?_⟩
   intro p7 n7;obtain ⟨H7,q7,s7,e7⟩:=newO n7 (.lst [.str (Str.ofString "across"),.str (Str.ofString "along")]);rw [q7];clear q7;refine ⟨_,rfl,p7,_,_,_,rfl,rfl,SqL.of e7,wd_at wx,_,rfl,_,rfl,by show 4<=sizeLine; decide,?_⟩
   intro p8 n8;obtain ⟨H8,q8,s8,e8⟩:=newO n8 (.tup [.ref pt,wdP x'.2.1,.int x'.2.2.1,.int x'.2.2.2]);rw [q8];clear q8;have qc:=s7.trans s8;refine kq _ _ ⟨hi,s6.trans qc,?_⟩;rw [zU hm];exact Al2.snoc (zp hy qc) ⟨p8,pt,rfl,SqT.of e8,Kw.Same.tup qc gt,ft⟩
  rintro dk H6 ⟨_,s6,gg⟩ p7 n7;rw [lf,List.take_length,eq] at gg;obtain ⟨H7,q7,s7,e7⟩:=newO n7 (.lst dk);rw [q7];clear q7;exact k p7 dk H7 (bZ.trans (s4.trans (s5.trans (s6.trans s7)))) e7 (zp gg s7)
 |@cons t ds ds' rest rest' ne l6 pm so lt gr=>
  have lds:rs.length=ds.length+rest.length:=by rw [lr,List.length_append,List.length_map]
  have dpos:0 < ds.length:=List.length_pos_iff.mpr ne;refine iteTz (by cases rs with|nil=>exact absurd lds (by simp; omega)|cons _ _=>rfl) ⟨_,λ_ _ n=>n,?_⟩
  have eh:=s5 _ _ ib;have eA:=s5 _ _ hf;have qd:=yu ar s5;obtain ⟨v0,hv0⟩:∃ y,rs[0]?=some y:=⟨_,List.getElem?_eq_getElem (by omega)⟩
  obtain ⟨x0,hx0,r0,a0,rfl,h0,g0,f0⟩:=Al2.get qd hv0;have t0:x0.1=t:=by
   rw [List.getElem?_append_left (by rw [List.length_map]; exact dpos),List.getElem?_map] at hx0
   cases e:ds[0]? with
   |none=>rw [e] at hx0; cases hx0
   |some y=>rw [e] at hx0; cases hx0; rfl
  rw [t0] at g0;refine ⟨_,rfl,_,rfl,r,rfl,⟨_,SqL.of eh⟩,lc_listF (K:=K) (xs:=rs) (λi ys H'=>i<=rs.length/\Same H5 H'/\Al2 (RwH K H') ys (((ds.map (λp=>(t,p))++rest).take i).filter λm=>decide (m.1=t))) ⟨Nat.zero_le _,Same.refl _,trivial⟩ (by rw [sizeLine_eq]; omega) (λi ys H' z=>by obtain ⟨l,_,e⟩:=z; rw [Al2.len e]; exact Nat.le_trans (List.length_filter_le _ _) (by rw [List.length_take]; omega)) (λi ys H' z=>by obtain ⟨_,g',_⟩:=z; exact SqL.of (g' _ _ eh)) ?_ ?_⟩
  ·rintro i x ys H6 Qn hx ⟨hi,s6,hy⟩ kq;have hi:i < rs.length:=(List.getElem?_eq_some_iff.mp hx).1;obtain ⟨x',hm,pv,pt,rfl,hpv,gt,ft⟩:=Al2.get (yu qd s6) hx;have Ko:=Kw.Same.tup s6 h0;refine ⟨_,rfl,pv,_,_,_,rfl,rfl,hpv,rfl,_,rfl,r,_,_,_,rfl,rfl,SqL.of (s6 _ _ eh),yA (j:=0) hv0,r0,_,_,_,rfl,rfl,Ko,rfl,pt,a0,x'.1,t,rfl,rfl,gt,Kw.Same.tup s6 g0,_,rfl,?_⟩;refine zd (λc=>?_) (λc=>?_)
   ·refine ⟨_,rfl,kq _ _ ⟨hi,s6,?_⟩⟩;rw [YH hm,if_pos (decide_eq_true c)];exact Al2.snoc hy ⟨pv,pt,rfl,hpv,gt,ft⟩
   ·refine kq _ _ ⟨hi,s6,?_⟩;rw [YH hm,if_neg (by rw [decide_eq_false c]; decide),List.append_nil]
    exact hy
  rintro dk H6 ⟨_,s6,gg⟩ p7 n7;rw [lr,List.take_length,filt_eq lt] at gg;obtain ⟨H7,q7,s7,e7⟩:=newO n7 (.lst dk);rw [q7];clear q7;have dX:=yu gg s7;have l7:dk.length=ds.length:=by rw [Al2.len dX,List.length_map]
  refine ⟨p7,dk,false,[frd t],3,ds.map keyI,rfl,SqL.of e7,by omega,rows_s _ _ dX,λks hk=>by obtain ⟨p,_,rfl⟩:=List.mem_map.mp hk; rfl,rfl,Nat.le_of_ble_eq_true rfl,λq l8 hp hs n8=>?_⟩
  obtain ⟨H8,q8,s8,e8⟩:=newO n8 (.lst (q.map λi=>dk.getD i .non))
  rw [q8];clear q8;have Gx:Al2 (RwH K H8) (q.map λi=>dk.getD i .non) (ds'.map λp=>(t,p)):=by
   refine yu (sort_al (m:=3) (λm:Rat × Pr=>keyI m.2) dX hp ?_ (pm.map _) ?_) s8
   ·rw [List.map_map];exact hs
   ·exact List.Pairwise.map _ (λ_ _ h=>h) so
  have Gy:=s6.trans (s7.trans s8);have Kp:=Gy _ _ eA;have lq:(q.map λi=>dk.getD i .non).length=ds.length:=by rw [Al2.len Gx,List.length_map,pm.length_eq]
  refine ⟨f,l8,fs,_,rfl,rfl,Kp,e8,by rw [lq,sizeLine_eq]; omega,?_⟩
  intro p9 n9;obtain ⟨H9,q9,s9,e9⟩:=newO n9 (.lst (fs++q.map λi=>dk.getD i .non))
  rw [q9];clear q9;have iy:=Gy.trans s9;have qe:=iy _ _ eh;have Kq:=yu qd iy;refine ⟨_,rfl,r,rfl,⟨_,SqL.of qe⟩,lc_listF (K:=K) (xs:=rs) (λi ys H'=>i<=rs.length/\Same H9 H'/\Al2 (RwH K H') ys (((ds.map (λp=>(t,p))++rest).take i).filter λm=>!decide (m.1=t))) ⟨Nat.zero_le _,Same.refl _,trivial⟩ (by rw [sizeLine_eq]; omega) (λi ys H' z=>by obtain ⟨l,_,e⟩:=z; rw [Al2.len e]; exact Nat.le_trans (List.length_filter_le _ _) (by rw [List.length_take]; omega)) (λi ys H' z=>by obtain ⟨_,g',_⟩:=z; exact SqL.of (g' _ _ qe)) ?_ ?_⟩
  ·rintro i x ys bC Qn hx ⟨hi,aX,hy⟩ kq;have hi:i < rs.length:=(List.getElem?_eq_some_iff.mp hx).1;obtain ⟨x',hm,pv,pt,rfl,hpv,gt,ft⟩:=Al2.get (yu Kq aX) hx;have qf:=Kw.Same.tup (iy.trans aX) h0;refine ⟨_,rfl,pv,_,_,_,rfl,rfl,hpv,rfl,_,rfl,r,_,_,_,rfl,rfl,SqL.of (aX _ _ qe),yA (j:=0) hv0,r0,_,_,_,rfl,rfl,qf,rfl,pt,a0,x'.1,t,rfl,rfl,gt,Kw.Same.tup (iy.trans aX) g0,_,rfl,?_⟩;refine Zb (λc=>?_) (λc=>?_)
   ·refine ⟨_,rfl,kq _ _ ⟨hi,aX,?_⟩⟩;rw [YH hm,if_pos (by rw [decide_eq_false c]; rfl)]
    exact Al2.snoc hy ⟨pv,pt,rfl,hpv,gt,ft⟩
   ·refine kq _ _ ⟨hi,aX,?_⟩;rw [YH hm,if_neg (by rw [decide_eq_true c]; decide),List.append_nil]
    exact hy
  rintro fJ bC ⟨_,aX,eN⟩ eD gB;rw [lr,List.take_length,filt_ne lt] at eN;obtain ⟨b6,dW,bJ,gC⟩:=newO gB (.lst fJ);rw [dW];clear dW;have fK:=aX.trans bJ;refine ⟨_,?_,p9,eD,_,fJ,fx++ds'.map (λp=>(t,p)),rest,rest',rfl,s4.trans (s5.trans (iy.trans fK)),fK _ _ e9,gC,Al2.app (yu (yu af s5) (iy.trans fK)) (yu Gx (s9.trans fK)),yu eN bJ,gr,by rw [List.append_assoc]; exact eq,?_,rfl⟩
  ·rw [List.length_append,List.length_map];omega
  ·rw [List.length_append,List.length_map,pm.length_eq];rw [List.length_append,List.length_map] at len;omega
noncomputable def j4 (K:Frag):Sp:=λvs H Q _=>∃ (l:Addr) (zs:List V) (ms ms':List (Rat × Pr)),vs=[.ref l]/\H l=some (.lst zs)/\Al2 (MtP K H) zs ms/\(∀ m∈ms,m.2.1<=1)/\(∀ m∈ms',m.2.1<=1)/\GrpS (mapM xP ms) ms'/\ms.length<=60/\∀ (l2:Addr) (ys:List V) (H1:Hp),Same H H1->H1 l2=some (.lst ys)->Al2 (MtP K H1) ys ms'->Q (.ref l2) H1
theorem sc_law_other_ways:FnScope ["run"] ["run"] (zD (top 82)):={}
theorem ok_law_other_ways (D:Df K mg "_law_other_ways" (top 82) ["run"]) (T:Tx K mg C) (aP:Fn P w K mg base 1 "_law_sorted" ["run"] (ZF K)):Fn P w K mg base 2 "_law_other_ways" ["run"] (j4 K):=by
 refine D.ok0 sc_law_other_ways (λvs H Q E h=>?_) (λf cdv A outer s H vs Q E hr h=>?_)
 ·obtain ⟨l,zs,ms,ms',rfl,_⟩:=h;rfl
 obtain ⟨l,zs,ms,ms',rfl,hl,al,wy,wy',grp,iT,k⟩:=h;refine ⟨_,(zF (zL (zI aP (by decide) hr (by rfl) zG (zA (@pe_lcG _ _ _ _ _ ["now","way","one","other"] _ _ _ _ _ _ _ [] [] rfl (zo (pv 0)) rfl (by decide) rfl (by decide) (λC z Hc fp=>pg_tupK (K:=K) rfl (n:=4) rfl (ze (zV (i:=0) (show ((["now","way","one","other"]:List Str)++([]:List Str)).Nodup by decide) rfl (.inl (lookup_relabel_local rfl)) (.inr (lookup_relabel_local rfl))) (ze (zV (i:=1) (show ((["now","way","one","other"]:List Str)++([]:List Str)).Nodup by decide) rfl (.inl (lookup_relabel_local rfl)) (.inr (lookup_relabel_local rfl))) (ze (zV (i:=2) (show ((["now","way","one","other"]:List Str)++([]:List Str)).Nodup by decide) rfl (.inl (lookup_relabel_local rfl)) (.inr (lookup_relabel_local rfl))) (ze (zV (i:=3) (show ((["now","way","one","other"]:List Str)++([]:List Str)).Nodup by decide) rfl (.inl (lookup_relabel_local rfl)) (.inr (lookup_relabel_local rfl))) YN))))) yx (λ_ _ h=>nomatch h) (jV rfl) (λC z Hc fp=>Jo) (λC z Hc fp=>(zQ (zA (pv 0) (zA (zH (ixL (K:=K) rfl) (yL (zA jc (zA jc zB))) (jZ call_int1 (by rfl) T.b_int PyProof.Rows.Boot.«int» (zA (ym jh (pv 1) jc (zS _)) zB)) (λ_ _=>rfl)) (zA (pv 2) (zA (pv 3) zB)))))) (λ_=>rfl)) zB)))),?_⟩
 try dsimp only [cxK,cxK0]
 have lz:=Al2.len al;have lm:(mapM xP ms).length=ms.length:=List.length_map _;refine ⟨_,rfl,l,rfl,⟨_,SqL.of hl⟩,Jv (K:=K) (xs:=zs) (λi ys H'=>i<=zs.length/\Same H H'/\Al2 (MtP K H') ys ((mapM xP ms).take i)) ⟨Nat.zero_le _,Same.refl _,trivial⟩ (by rw [sizeLine_eq]; omega) (λi ys H' z=>by obtain ⟨l,_,e⟩:=z; have:=Al2.len e; rw [List.length_take] at this; omega) (λi ys H' z=>by obtain ⟨_,g',_⟩:=z; exact SqL.of (g' _ _ hl)) ?_ ?_⟩
 ·rintro i x ys H2 Q1 loc ll hx ⟨hi,s2,hy⟩ kq;have hi:i < zs.length:=(List.getElem?_eq_some_iff.mp hx).1;obtain ⟨x',hm,pv,pt,rfl,hpv,gt,ft⟩:=Al2.get (zp al s2) hx;obtain ⟨k1,k2,k3,k4,rfl⟩:∃ k1 k2 k3 k4,loc=[k1,k2,k3,k4]:=match loc,ll with|[k1,k2,k3,k4],_=>⟨k1,k2,k3,k4,rfl⟩
  have wx:=wy x' (List.mem_of_getElem? hm);have hm':(mapM xP ms)[i]?=some (x'.1,xP x'.2):=by
   unfold mapM;rw [List.getElem?_map,hm];rfl
  refine ⟨pv,_,rfl,hpv,rfl,_,_,rfl,_,_,rfl,_,_,rfl,_,_,rfl,rfl,?_⟩;refine ⟨⟨[some (.ref pt),some (wdP x'.2.1),some (.int x'.2.2.1),some (.int x'.2.2.2)],rfl,rfl⟩,?_⟩;refine ⟨_,rfl,by show 2<=sizeLine; decide,?_⟩
  intro p3 n3;obtain ⟨H3,q3,s3,e3⟩:=newO n3 (.lst [.str (Str.ofString "along"),.str (Str.ofString "across")]);rw [q3];clear q3;obtain ⟨kw,ekw⟩:∃ kw:Str,wdP x'.2.1=.str kw:=⟨_,rfl⟩;have ati:atI [V.str (Str.ofString "along"),.str (Str.ofString "across")] (if decide (wdP x'.2.1=V.str (Str.ofString "along"))=true then 1 else 0)=some (wdP (1 - x'.2.1)):=by
   rcases d01 wx with e|e<;>rw [e]<;>rfl
  refine ⟨_,rfl,rfl,.inr ⟨_,rfl,p3,_,_,_,rfl,rfl,SqL.of e3,ati,_,rfl,_,rfl,by show 4<=sizeLine; decide,?_⟩⟩
  intro p4 n4;obtain ⟨H4,q4,s4,e4⟩:=newO n4 (.tup [.ref pt,wdP (1 - x'.2.1),.int x'.2.2.1,.int x'.2.2.2]);rw [q4];clear q4;have eQ:=s3.trans s4;refine kq _ _ ⟨hi,s2.trans eQ,?_⟩;rw [zU hm'];exact Al2.snoc (zp hy eQ) ⟨p4,pt,rfl,SqT.of e4,Kw.Same.tup eQ gt,ft⟩
 rintro hE H2 ⟨_,s2,hy2⟩ p3 n3;rw [lz,<- lm,List.take_length] at hy2;obtain ⟨H3,q3,s3,e3⟩:=newO n3 (.lst hE);rw [q3];clear q3;refine ⟨p3,hE,mapM xP ms,ms',rfl,e3,zp hy2 s3,λm hm=>?_,wy',grp,by omega,λl2 ys H4 s4 e4 qg=>k l2 ys H4 (s2.trans (s3.trans s4)) e4 qg⟩
 unfold mapM at hm;obtain ⟨y,hy,rfl⟩:=List.mem_map.mp hm;show 1 - y.2.1<=1;omega
noncomputable def je (K:Frag):Sp:=λvs H Q _=>∃ (l:Addr) (zs:List V) (ms ms':List (Rat × Pr)) (n:Nat),vs=[.ref l]/\H l=some (.lst zs)/\Al2 (MtP K H) zs ms/\(∀ m∈ms,InP n m.2)/\(∀ m∈ms',m.2.1<=1)/\GrpS (mapM mP ms) ms'/\ms.length<=60/\∀ (l2:Addr) (ys:List V) (H1:Hp),Same H H1->H1 l2=some (.lst ys)->Al2 (MtP K H1) ys ms'->Q (.ref l2) H1
theorem zq:FnScope ["run","rows","now","way","one","other"] ["run"] (zD (top 83)):={}
theorem ok_law_other_sides (D:Df K mg "_law_other_sides" (top 83) ["run"]) (T:Tx K mg C) (aP:Fn P w K mg base 1 "_law_sorted" ["run"] (ZF K)):Fn P w K mg base 2 "_law_other_sides" ["run"] (je K):=by
 refine D.ok0 zq (λvs H Q E h=>?_) (λf cdv A outer s H vs Q E hr h=>?_)
 ·obtain ⟨l,zs,ms,ms',n,rfl,_⟩:=h;rfl
 obtain ⟨l,zs,ms,ms',n,rfl,hl,al,wy,wy',grp,iT,k⟩:=h
 refine ⟨_,(zE (zM (i:=1) zq.nd rfl (Or.inl rfl) (yL zB))
   (zE (yH PassesOwn.never rfl (zo (pv 0)) (pg_tup rfl (ze (zV (i:=2) zq.nd rfl (Or.inl rfl)) (ze (zV (i:=3) zq.nd rfl (Or.inl rfl)) (ze (zV (i:=4) zq.nd rfl (Or.inl rfl)) (ze (zV (i:=5) zq.nd rfl (Or.inl rfl)) YN))))) (zF (zf (zR jh (pv 3) jc (zS _)) (zF (yZ (Ja PySem.F.plainAttrs_list PySem.F.slot_list_append PySem.F.type_list_append jY (pv 1) (zA (zQ (zA (pv 2) (zA (pv 3) (zA (pv 4) (zA (pv 5) zB))))) zB)))) (zF (zf (zR jh (pv 4) (YR ZE zC) (zS _)) (zF (yZ (Ja PySem.F.plainAttrs_list PySem.F.slot_list_append PySem.F.type_list_append jY (pv 1) (zA (zQ (zA (pv 2) (zA (pv 3) (zA (pv 5) (zA (YR ZE zC) zB))))) zB)))) (zF (zf (zR jh (pv 5) (YR ZE zC) (zS _)) (zF (yZ (Ja PySem.F.plainAttrs_list PySem.F.slot_list_append PySem.F.type_list_append jY (pv 1) (zA (zQ (zA (pv 2) (zA (pv 3) (zA (YR ZE zC) (zA (pv 4) zB))))) zB)))) (zF (yZ (Ja PySem.F.plainAttrs_list PySem.F.slot_list_append PySem.F.type_list_append jY (pv 1) (zA (zQ (zA (pv 2) (zA (pv 3) (zA (pv 5) (zA (pv 4) zB))))) zB)))))))))))
   (zF (zL (zI aP (by decide) hr (by rfl) zG (zA (pv 1) zB)))))),?_⟩
 try dsimp only [cxK,cxK0]
 have lz:=Al2.len al;have lm:(mapM mP ms).length=ms.length:=List.length_map _;refine ⟨by show 0<=sizeLine; decide,?_⟩
 intro p1 n1;obtain ⟨H1,q1,s1,e1⟩:=newO n1 (.lst []);rw [q1];clear q1;have nf:=n1;have eW:=s1 _ _ hl;have nl:l≠p1:=zN hl n1;have nG:NoT [p1] H1:=NoT.lst e1 NoT.nil;refine ⟨_,rfl,l,rfl,⟨_,SqL.of eW⟩,ZO (K:=K) (xs:=zs) (λi σ' H'=>∃ (u2 u3 u4 u5:Option V) (ys:List V),σ'=[some (.ref l),some (.ref p1),u2,u3,u4,u5]/\But p1 H1 H'/\H' p1=some (.lst ys)/\Al2 (MtP K H') ys ((mapM mP ms).take i)) ⟨_,_,_,_,[],rfl,But.refl _,e1,trivial⟩ (by rintro _ _ _ _ ⟨_,_,_,_,_,_,g,_⟩; exact SqL.of (g _ _ nl eW)) ?_ ?_⟩
 ·rintro i v σ' H2 hv ⟨u2,u3,u4,u5,ys,rfl,b2,e2,ay⟩;have Gz:Buts [p1] H1 H2:=Buts.one b2 (by simp)
  obtain ⟨m,hm,pv,pt,rfl,hpv,gt,ft⟩:=Al2.get (zp al s1) hv;have qh:=Gz.tup nG hpv;have Kr:FQ K H2 pt m.1:=Gz.tup nG gt;have im:=wy m (List.mem_of_getElem? hm);have lys:=Al2.len ay;rw [List.length_take] at lys;have hm':(mapM mP ms)[i]?=some (m.1,mP m.2):=by
   unfold mapM;rw [List.getElem?_map,hm];rfl
  refine ⟨pv,_,rfl,qh,rfl,_,_,rfl,_,_,rfl,_,_,rfl,_,_,rfl,rfl,?_⟩;obtain ⟨kw,ekw⟩:∃ kw:Str,wdP m.2.1=.str kw:=⟨_,rfl⟩;have fin:∀ (w3 w4 w5 w6:Option V) (p3:Addr) (H3:Hp) (d:Nat) (a c:Int),Same H2 H3->H3 p3=some (.tup [.ref pt,wdP d,.int a,.int c])->mP m.2=(d,a,c)->∃ (u2 u3 u4 u5:Option V) (ys':List V),([some (.ref l),some (.ref p1),w3,w4,w5,w6]:L2.St)=[some (.ref l),some (.ref p1),u2,u3,u4,u5]/\But p1 H1 (upd H3 p1 (.lst (ys++[.ref p3])))/\upd H3 p1 (.lst (ys++[.ref p3])) p1=some (.lst ys')/\Al2 (MtP K (upd H3 p1 (.lst (ys++[.ref p3])))) ys' ((mapM mP ms).take (i+1)):=λw3 w4 w5 w6 p3 H3 d a c s3 e3 em=>by
   obtain ⟨H4,q4,b4,e4⟩:=newB (H:=H3) (p:=p1) (.lst (ys++[.ref p3]));rw [q4];have fV:=s3 _ _ e2;refine ⟨_,_,_,_,_,rfl,b2.trans ((But.of s3).trans b4),e4,?_⟩;rw [zU hm',em];have iO:NoT [p1] H3:=NoT.lst fV NoT.nil;exact mtp_buts (Al2.snoc (zp ay s3) ⟨p3,pt,rfl,SqT.of e3,Kw.Same.tup s3 Kr,ft⟩) (Buts.one b4 (by simp)) iO
  refine ⟨_,rfl,rfl,_,rfl,?_⟩;rcases d01 im.1 with d0|d1
  ·refine iteFz (by rw [d0]; decide) ?_
   have em:=mP_0 d0;obtain ⟨w1,w2⟩:=in_w im;refine ⟨_,rfl,_,rfl,rfl,_,rfl,?_⟩;refine yr (λc=>?_) (λc=>?_)
   ·have k0:0<=m.2.2.2:=by
     rcases im.2.2.2.2 with z|z
     ·omega
     ·exact z
    refine ⟨_,rfl,.inl ⟨rfl,_,SqL.of e2⟩,_,rfl,_,rfl,_,rfl,_,rfl,by show 4<=sizeLine; decide,?_⟩
    intro p3 n3;obtain ⟨H3,q3,s3,e3⟩:=newO n3 (.tup [.ref pt,wdP m.2.1,.int m.2.2.2,.int (-2)]);rw [q3];clear q3;refine ⟨p1,ys,_,rfl,rfl,s3 _ _ e2,by rw [sizeLine_eq]; omega,?_⟩
    exact fin _ _ _ _ p3 H3 m.2.1 m.2.2.2 (-2) s3 e3 (by rw [em,d0,yf k0,c]; rfl)
   ·have i0:0<=m.2.2.1:=by
     rcases im.2.1 with z|⟨j,_,z⟩
     ·exact absurd z c
     ·omega
    refine ⟨_,rfl,_,rfl,rfl,_,rfl,?_⟩;refine yr (λc2=>?_) (λc2=>?_)
    ·refine ⟨_,rfl,.inl ⟨rfl,_,SqL.of e2⟩,_,rfl,_,rfl,_,rfl,_,rfl,by show 4<=sizeLine; decide,?_⟩
     intro p3 n3;obtain ⟨H3,q3,s3,e3⟩:=newO n3 (.tup [.ref pt,wdP m.2.1,.int (-1),.int m.2.2.1]);rw [q3];clear q3;refine ⟨p1,ys,_,rfl,rfl,s3 _ _ e2,by rw [sizeLine_eq]; omega,?_⟩
     exact fin _ _ _ _ p3 H3 m.2.1 (-1) m.2.2.1 s3 e3 (by rw [em,d0,yf i0,c2]; rfl)
    ·have k0:0<=m.2.2.2:=by
      rcases im.2.2.1 with z|⟨j,_,z⟩
      ·exact absurd z c2
      ·omega
     refine ⟨_,rfl,.inl ⟨rfl,_,SqL.of e2⟩,_,rfl,_,rfl,_,rfl,_,rfl,by show 4<=sizeLine; decide,?_⟩
     intro p3 n3;obtain ⟨H3,q3,s3,e3⟩:=newO n3 (.tup [.ref pt,wdP m.2.1,.int m.2.2.2,.int m.2.2.1]);rw [q3];clear q3;refine ⟨p1,ys,_,rfl,rfl,s3 _ _ e2,by rw [sizeLine_eq]; omega,?_⟩
     exact fin _ _ _ _ p3 H3 m.2.1 m.2.2.2 m.2.2.1 s3 e3 (by rw [em,d0,yf i0,yf k0])
  ·refine iteTz (by rw [d1]; decide) ?_
   refine ⟨_,rfl,.inl ⟨rfl,_,SqL.of e2⟩,_,rfl,_,rfl,_,rfl,_,rfl,by show 4<=sizeLine; decide,?_⟩
   intro p3 n3;obtain ⟨H3,q3,s3,e3⟩:=newO n3 (.tup [.ref pt,wdP m.2.1,.int m.2.2.1,.int m.2.2.2]);rw [q3];clear q3;refine ⟨p1,ys,_,rfl,rfl,s3 _ _ e2,by rw [sizeLine_eq]; omega,?_⟩
   exact fin _ _ _ _ p3 H3 m.2.1 m.2.2.1 m.2.2.2 s3 e3 (mP_1 (by omega))
 rintro σ' H2 ⟨u2,u3,u4,u5,ys,rfl,b2,e2,ay⟩;rw [lz,<- lm,List.take_length] at ay;have eI:Same H H2:=λa o ha=>b2 _ _ (zN ha nf) (s1 _ _ ha)
 refine ⟨_,rfl,p1,ys,mapM mP ms,ms',rfl,e2,ay,λm hm=>?_,wy',grp,by omega,λl2 hE H4 s4 e4 qg=>k l2 hE H4 (eI.trans s4) e4 qg⟩
 unfold mapM at hm;obtain ⟨y,hy,rfl⟩:=List.mem_map.mp hm;exact (mb_in (wy y hy)).1
theorem mps_dp {K:Frag} {H:Hp}:∀ {vs:List V} {ms:List (Rat × Pr)},Al2 (MtP K H) vs ms->Dps K H vs (ms.map mpD)
 |[],[],_=>.nil
 |_::_,_::_,z=>by
  obtain ⟨⟨p,a,rfl,h1,h2,_⟩,r⟩:=z;exact .cons (.tup h1 (.cons h2.dp (.cons (.str _) (.cons (.int _) (.cons (.int _) .nil))))) (mps_dp r)
 |[],_::_,z=>z.elim
 |_::_,[],z=>z.elim
theorem told_dpP {K:Frag} {H:Hp} {r:Addr} {wd:String} {ms:List (Rat × Pr)} {es:List Bq} {last:Rat} (h:ToldP K H r wd ms es last):Dp K H (.ref r) (tlpD wd ms (es.map (atB last)) last):=by
 obtain ⟨rr,rb,rn,zs,ws,h1,h2,h3,h4,h5,h6,_⟩:=h;exact .tup h1 (.cons (.str _) (.cons (.lst (SqL.of h2) (mps_dp h3)) (.cons (.lst (SqL.of h4) (bqs_dp h5)) (.cons h6.dp .nil))))
theorem run_wordP {R:Rat × Rat} {gs:List Bq} {now:Rat} {n:Nat} {wd:String} {ms:List (Rat × Pr)} {es:List Bq} {last:Rat} (r:RunP R gs now n wd ms es last):wd="still"\/wd="more"\/wd="crowd":=by
 induction r with
 |still h=>exact .inl rfl
 |more h=>exact .inr (.inl rfl)
 |crowd h c=>exact .inr (.inr rfl)
 |step h c r ih=>exact ih
theorem run_inP {R:Rat × Rat} {gs:List Bq} {now:Rat} {n:Nat} {wd:String} {ms:List (Rat × Pr)} {es:List Bq} {last:Rat} (r:RunP R gs now n wd ms es last):∀ m∈ms,InP gs.length m.2:=by
 induction r with
 |still h=>intro m hm; exact absurd hm (List.not_mem_nil)
 |more h=>intro m hm; exact absurd hm (List.not_mem_nil)
 |crowd h c=>intro m hm; exact absurd hm (List.not_mem_nil)
 |step h c r ih=>
  intro m hm;rcases List.mem_append.mp hm with a|a
  ·unfold mtsP at a;obtain ⟨q,hq,rfl⟩:=List.mem_map.mp a;exact z7 q hq
  ·have z:=ih m a;rw [show (onP _ _ _).length=_ from yY _ _] at z;exact z
theorem run_lenP {R:Rat × Rat} {gs:List Bq} {now:Rat} {n:Nat} {wd:String} {ms:List (Rat × Pr)} {es:List Bq} {last:Rat} (r:RunP R gs now n wd ms es last):gs.length<=6->ms.length<=6 * n:=by
 induction r with
 |still h=>intro _; exact Nat.zero_le _
 |more h=>intro _; exact Nat.zero_le _
 |crowd h c=>intro _; exact Nat.zero_le _
 |step h c r ih=>
  intro l6;have a:=ih (by rw [show (onP _ _ _).length=_ from yY _ _]; exact l6)
  have b:=Jp l6 (by
   have z:=c;unfold crwP at z
   exact (Bool.or_eq_false_iff.mp z).1)
  rw [List.length_append];unfold mtsP;rw [List.length_map];omega
theorem map_at {T:Bq->Bq} {bs:List Bq} {i:Nat} {b:Bq} (h:bs[i]?=some b):(bs.map T)[i]?=some (T b):=by rw [List.getElem?_map,h]; rfl
theorem jS:FnScope ["script","k","box","room","boxes","most","word","run","there","now","found"] ["script"] (zD (top 84)):={}
theorem ok_law (D:Df K mg "law" (top 84) ["script"]) (T:Tx K mg C) (d9:Fn P w K mg base 2 "_law_box" ["script","k"] (spBox K)) (dG:Fn P w K mg base 2 "_law_room" ["box"] (JY K)) (c8:Fn P w K mg base 4 "_law_boxes" ["box","room"] (JB K)) (aa:Fn P w K mg base 1 "_law_take" ["box","many"] spTake) (bW:Fn P w K mg base 10 "run_in" ["room","boxes","most"] (sp_run_in K)) (aR:Fn P w K mg base 1 "_law_exchanged" ["one"] (ZJ K)) (bA:Fn P w K mg base 2 "_law_other_ways" ["run"] (j4 K)) (aV:Fn P w K mg base 3 "_law_mirrored" ["one","room"] (Zf K)) (br:Fn P w K mg base 2 "_law_other_sides" ["run"] (je K)):Fn P w K mg base 11 "law" ["script"] (spLaw K):=by
 refine D.ok0 jS (λvs H Q E h=>?_) (λf cdv A outer s H vs Q E hr h=>?_)
 ·obtain ⟨a,rfl,_⟩:=h;rfl
 obtain ⟨a,rfl,hS,fin⟩:=h
 refine ⟨_,(zE (yH PassesOwn.never rfl (jF (by rfl) T.b_range (zA (zY (call_max2 rfl) (by rfl) T.b_max PyProof.Rows.Boot.«max» (zA zC (zA (zY (call_min2 rfl) (by rfl) T.b_min PyProof.Rows.Boot.«min» (zA (zY yI (by rfl) T.b_len PyProof.Rows.Boot.«len» (zA (pv 0) zB)) (zA zC zB))) zB))) zB)) (zV (i:=1) jS.nd rfl (Or.inl rfl)) (zE (zM (i:=2) jS.nd rfl (Or.inl rfl) (zI d9 (by decide) hr (by rfl) zG (zA (pv 0) (zA (pv 1) zB))))
   (zE (zM (i:=3) jS.nd rfl (Or.inr rfl) (zI dG (by decide) hr (by rfl) zG (zA (pv 2) zB)))
   (zE (zM (i:=4) jS.nd rfl (Or.inl rfl) (zI c8 (by decide) hr (by rfl) zG (zA (pv 2) (zA (pv 3) zB))))
   (zE (zM (i:=5) jS.nd rfl (Or.inl rfl) (zI aa (by decide) hr (by rfl) zG (zA (pv 2) (zA zC zB))))
   (zE (YX (zI bW (by decide) hr (by rfl) zG (zA (pv 3) (zA (pv 4) (zA (pv 5) zB)))) (pg_tup rfl (ze (zV (i:=6) jS.nd rfl (Or.inl rfl)) (ze (zV (i:=7) jS.nd rfl (Or.inl rfl)) (ze (zV (i:=8) jS.nd rfl (Or.inl rfl)) (ze (zV (i:=9) jS.nd rfl (Or.inl rfl)) YN))))))
   (zE (zM (i:=10) jS.nd rfl (Or.inl rfl) (zI bW (by decide) hr (by rfl) zG (zA (zQ (zA (zH ix_tup (pv 3) zC (λ_ _=>rfl)) (zA (zH ix_tup (pv 3) zC (λ_ _=>rfl)) zB))) (zA (@Zh _ _ _ _ _ _ _ _ _ _ [] [] rfl (zo (pv 4)) rfl (by decide) rfl (by decide) rfl (by decide) yx (λ_ _ h=>nomatch h) (jV rfl) (λC z Hc fp=>(zI aR (by decide) hr (by rfl) zG (zA (pv 0) zB))) (λ_=>rfl)) (zA (pv 5) zB)))))
   (zE (zf (zR (op_neA (K:=K) rfl (u100 hr)) (pv 10) (zQ (zA (pv 6) (zA (zI bA (by decide) hr (by rfl) zG (zA (pv 7) zB)) (zA (@Zh _ _ _ _ _ _ _ _ _ _ [] [] rfl (zo (pv 8)) rfl (by decide) rfl (by decide) rfl (by decide) yx (λ_ _ h=>nomatch h) (jV rfl) (λC z Hc fp=>(zI aR (by decide) hr (by rfl) zG (zA (pv 0) zB))) (λ_=>rfl)) (zA (pv 9) zB))))) (zS _)) (zF (zL jL)) zX)
   (zE (zM (i:=10) jS.nd rfl (Or.inl rfl) (zI bW (by decide) hr (by rfl) zG (zA (pv 3) (zA (@Zh _ _ _ _ _ _ _ _ _ _ ["room"] [3] rfl (zo (pv 4)) rfl (by decide) rfl (by decide) rfl (by decide) (jA (j:=3) rfl rfl rfl rfl (.inl rfl)) (λy c h=>h) (ja rfl) (λC z Hc fp=>(zI aV (by decide) hr (by rfl) zG (zA (pv 0) (zA (pv 1) zB)))) (λ_=>rfl)) (zA (pv 5) zB)))))
   (zF (zf (zR (op_neA (K:=K) rfl (u100 hr)) (pv 10) (zQ (zA (pv 6) (zA (zI br (by decide) hr (by rfl) zG (zA (pv 7) zB)) (zA (@Zh _ _ _ _ _ _ _ _ _ _ ["room"] [3] rfl (zo (pv 8)) rfl (by decide) rfl (by decide) rfl (by decide) (jA (j:=3) rfl rfl rfl rfl (.inl rfl)) (λy c h=>h) (ja rfl) (λC z Hc fp=>(zI aV (by decide) hr (by rfl) zG (zA (pv 0) (zA (pv 1) zB)))) (λ_=>rfl)) (zA (pv 9) zB))))) (zS _)) (zF (zL jL)) zX)))))))))))
   (zF (zL jL))),?_⟩
 try dsimp only [cxK,cxK0]
 obtain ⟨ns,hL,h63,_⟩:=id hS;refine ⟨_,rfl,_,_,rfl,.inl ⟨_,hL,rfl⟩,_,_,rfl,_,_,rfl,_,rfl,?_⟩;obtain ⟨m,hme,m1,m8⟩:=most_of ns 3 (by decide)
 rw [hme];have er:∀ i:Int,-(2 ^ 64) < i->i < 2 ^ 64->Bd 9000 i:=λi h1 h2=>(Bd.small h1 h2).mono (by decide)
 refine ⟨by omega,by omega,yX (n:=m.toNat) (λi σ' H'=>∃ r1 r2 r3 r4 r5 r6 r7 r8 r9 ka:Option V,σ'=[some (.ref a),r1,r2,r3,r4,r5,r6,r7,r8,r9,ka]/\Same H H') ⟨_,_,_,_,_,_,_,_,_,_,rfl,Same.refl _⟩ ?_ ?_⟩
 ·rintro i σ0 H0 hi ⟨u1,u2,u3,u4,u5,u6,u7,u8,u9,u10,rfl,sm⟩;refine all_go λEE hN _ _ _=>?_
  refine ⟨_,rfl,_,rfl,a,_,rfl,Scr.same hS sm,by omega,by omega,λb nb Hb Ks sb hb=>?_⟩
  refine ⟨_,rfl,b,_,rfl,hb,λrp r0 r1 R H1 n1 s1 eP hrm gM i7 rmq=>?_⟩
  refine ⟨_,rfl,_,rfl,b,_,rp,r0,r1,R,rfl,eP,hrm,gM,i7,rmq,λf xs gs n2 H2 s2 c9 fb nf GA fi l1 bq=>?_⟩
  refine ⟨_,rfl,b,9,_,rfl,c9,by decide,er _ (by decide) (by decide),λd3 n3 H3 SA SB s3 Fv=>?_⟩
  obtain ⟨mo,rfl⟩:∃ mo:Nat,d3=(mo:Int):=⟨d3.toNat,by omega⟩
  have gd:=bq.gd rmq l1;have cm:=bq.cm rmq;have l6:=bq.1;have i8:FB 1990 R.1:=rmq.2.2.1.f42;have i9:FB 1990 R.2:=rmq.2.2.2.f42;have ix:FB 20 R.1:=rmq.2.2.1.fb (by decide) (by decide)
  have fL:=s3.tup c9 (s2.tup eP hrm);have fM:=s3.tup c9 (s2.tup eP gM);have hG:=s3.tup c9 (s2.tup eP i7);have qk:=s3 _ _ fb GA;have eU:=bqs_but fi s3 c9;have Kt:But b H0 H3:=(But.of sb).trans (s1.trans (s2.trans s3));clear hb eP c9 hrm gM i7 fi GA;refine ⟨_,rfl,_,rfl,_,rfl,rp,r0,r1,f,R,xs,gs,mo,20,rfl,fL,fM,hG,i8,i9,qk,eU,gd,cm,by omega,by omega,λt4 wd ms es last H4 s4 rq told=>?_⟩
  have A:=run_all rq gd.r1 gd.r2 (B:=20) l6 gd.wt cm (gd_start gd);have f1:=A.at;have wok:=run_wordP rq;have inp:=run_inP rq;have lms:=run_lenP rq l6;have lgx:=Al2.len eU;obtain ⟨rr,rb,rn,zs,ws,t1,t2,t3,t4',t5,t6,t7⟩:=told;have lws:=Al2.len t5;have les:(es.map (atB last)).length<=6:=by rw [List.length_map,A.ln]; exact l6
  refine ⟨t4,_,rfl,t1,rfl,_,_,rfl,_,_,rfl,_,_,rfl,_,_,rfl,rfl,?_⟩;have kK:=Kw.Same.tup s4 fL;have bound:3 * (20+90 * mo)+3<=2300:=by omega
  have GB:Al2 (BqH K 2300 H4) ws (es.map (atB last)):=bqs_fb t5 λb hb=>⟨(f1 b hb).1.mono bound,(f1 b hb).2.1.mono bound⟩
  refine ⟨_,rfl,rp,_,_,_,rfl,rfl,kK,rfl,_,rfl,rp,_,_,_,rfl,rfl,kK,rfl,by show 2<=sizeLine; decide,?_⟩
  intro p5 n5;obtain ⟨H5,q5,s5,e5⟩:=newO n5 (.tup [.ref r1,.ref r0]);rw [q5];clear q5;have dR:=s4.trans s5;have eA:=dR _ _ qk;have bY:=zT eU dR;refine ⟨_,rfl,f,rfl,⟨_,SqL.of eA⟩,jJ (K:=K) (xs:=xs) (λi ys H'=>i<=xs.length/\Same H5 H'/\Al2 (BqH K 1990 H') ys ((gs.map xB).take i)) ⟨Nat.zero_le _,Same.refl _,trivial⟩ (by rw [sizeLine_eq]; omega) (λi ys H' z=>by obtain ⟨l,_,e⟩:=z; have:=Al2.len e; rw [List.length_take,List.length_map] at this; omega) (λi ys H' z=>by obtain ⟨_,g',_⟩:=z; exact SqL.of (g' _ _ eA)) ?_ ?_⟩
  ·rintro i x ys H6 Q1 hx ⟨hi,s6,hy⟩ kq;obtain ⟨g,hg,hq⟩:=Al2.get (zT bY s6) hx;refine ⟨_,rfl,x,g,1990,rfl,hq,λp7 H7 s7 h7=>kq _ _ ⟨(List.getElem?_eq_some_iff.mp hx).1,s6.trans s7,?_⟩⟩
   rw [zU (map_at hg)];exact Al2.snoc (zT hy s7) h7
  rintro dk H6 ⟨_,s6,gg⟩ p7 n7;rw [lgx,<- List.length_map (f:=xB),List.take_length] at gg;obtain ⟨H7,q7,s7,e7⟩:=newO n7 (.lst dk);rw [q7];clear q7;have GC:=dR.trans (s6.trans s7);refine ⟨_,rfl,p5,r1,r0,p7,xR R,dk,gs.map xB,mo,20,rfl,Kw.Same.tup (s6.trans s7) (SqT.of e5),Kw.Same.tup GC hG,Kw.Same.tup GC fM,i9,i8,e7,zT gg s7,gd_x gd,cm_x cm,by omega,by omega,λt8 SC iC oK GD H8 s8 GE kL=>?_⟩
  obtain ⟨g1,e1,e2,e3⟩:=tlp_sym sym_x l6 gd.wt rq GE;have qm:=run_inP GE;have GF:=told_dpP kL;rw [e1,e3,e2] at GF;have qp:=s5.trans (s6.trans (s7.trans s8));refine ⟨_,rfl,_,rfl,_,rfl,rr,zs,ms,iC,rfl,qp _ _ t2,zp t3 qp,λm hm=>(inp m hm).1,λm hm=>(qm m hm).1,g1,by omega,λl9 SD H9 s9 e9 ii=>?_⟩
  have qq:=qp.trans s9;have GG:=qq _ _ t4';have Ku:=zT GB qq;refine ⟨_,rfl,rb,rfl,⟨_,SqL.of GG⟩,jJ (K:=K) (xs:=ws) (λi ys H'=>i<=ws.length/\Same H9 H'/\Al2 (BqH K 2300 H') ys (((es.map (atB last)).map xB).take i)) ⟨Nat.zero_le _,Same.refl _,trivial⟩ (by rw [sizeLine_eq]; omega) (λi ys H' z=>by obtain ⟨l,_,e⟩:=z; have:=Al2.len e; rw [List.length_take,List.length_map] at this; omega) (λi ys H' z=>by obtain ⟨_,g',_⟩:=z; exact SqL.of (g' _ _ GG)) ?_ ?_⟩
  ·rintro i x ys bC Q1 hx ⟨hi,aX,hy⟩ kq;obtain ⟨g,hg,hq⟩:=Al2.get (zT Ku aX) hx;refine ⟨_,rfl,x,g,2300,rfl,hq,λeD b6 bJ EQ=>kq _ _ ⟨(List.getElem?_eq_some_iff.mp hx).1,aX.trans bJ,?_⟩⟩
   rw [zU (map_at hg)];exact Al2.snoc (zT hy bJ) EQ
  rintro fJ bC ⟨_,aX,eN⟩ eD gB;rw [lws,<- List.length_map (f:=xB),List.take_length] at eN;obtain ⟨b6,dW,bJ,gC⟩:=newO gB (.lst fJ);rw [dW];clear dW;refine ⟨_,rfl,by show 4<=sizeLine; decide,?_⟩
  intro pC iu;obtain ⟨dl,dU,ao,dQ⟩:=newO iu (.tup [.str (Str.ofString wd),.ref l9,.ref eD,.ref rn]);rw [dU];clear dU;have fN:=aX.trans (bJ.trans ao);have hI:=qq.trans fN;have qr:Dp K dl (.ref pC) (tlpD wd iC ((es.map (atB last)).map xB) last):=.tup (SqT.of dQ) (.cons (.str _) (.cons (.lst (SqL.of (fN _ _ e9)) (mps_dp (zp ii fN))) (.cons (.lst (SqL.of (ao _ _ gC)) (bqs_dp (zT eN (bJ.trans ao)))) (.cons (FQ.dp (Kw.Same.tup hI t6)) .nil))));refine ⟨_,GF.same (s9.trans fN),qr,(tlp_ok wok _ _ _).1,(tlp_ok wok _ _ _).2,_,rfl,iteF ?_⟩;have eO:=s4.trans hI;have kM:=eO _ _ qk;have gJ:=zT eU eO;have gh:=Kw.Same.tup eO fL;have gi:=Kw.Same.tup eO fM;refine ⟨_,rfl,_,rfl,f,rfl,⟨_,SqL.of kM⟩,jJ (K:=K) (xs:=xs) (λi ys H'=>i<=xs.length/\Same dl H'/\Al2 (BqH K 1990 H') ys ((gs.map (mB R)).take i)) ⟨Nat.zero_le _,Same.refl _,trivial⟩ (by rw [sizeLine_eq]; omega) (λi ys H' z=>by obtain ⟨l,_,e⟩:=z; have:=Al2.len e; rw [List.length_take,List.length_map] at this; omega) (λi ys H' z=>by obtain ⟨_,g',_⟩:=z; exact SqL.of (g' _ _ kM)) ?_ ?_⟩
  ·rintro i x ys iQ Q1 hx ⟨hi,aJ,hy⟩ kq;obtain ⟨g,hg,hq⟩:=Al2.get (zT gJ aJ) hx;have mg:=List.mem_of_getElem? hg;have fm:=(cm_fb (cm_m cm) (List.mem_map.mpr ⟨g,mg,rfl⟩)).1;refine ⟨_,rfl,_,rfl,x,g,1990,1990,rp,r0,r1,R,rfl,hq,Kw.Same.tup aJ gh,Kw.Same.tup aJ gi,ix,by decide,fm.mono (by decide),(cm_fb cm mg).2.1.mono (by decide),λiR cO bB ER=>kq _ _ ⟨(List.getElem?_eq_some_iff.mp hx).1,aJ.trans bB,?_⟩⟩
   rw [zU (map_at hg)];exact Al2.snoc (zT hy bB) ER
  rintro kN iQ ⟨_,aJ,hy13⟩ iR pD;rw [lgx,<- List.length_map (f:=mB R),List.take_length] at hy13;obtain ⟨cO,gE,bB,iS⟩:=newO pD (.lst kN);rw [gE];clear gE;have dJ:=aJ.trans bB;refine ⟨_,rfl,rp,r0,r1,iR,R,kN,gs.map (mB R),mo,22,rfl,Kw.Same.tup dJ gh,Kw.Same.tup dJ gi,Kw.Same.tup (eO.trans dJ) hG,i8,i9,iS,zT hy13 bB,gd_m gd,cm_m cm,by omega,by omega,λSE SF GH oM GI HX ej GJ kO=>?_⟩
  obtain ⟨h1,c1,c2,c3⟩:=tlp_sym sym_m l6 gd.wt rq GJ;have qt:=run_inP GJ;have kP:=told_dpP kO;rw [c1,c3,c2] at kP;have hJ:=hI.trans (dJ.trans ej);refine ⟨_,rfl,_,rfl,_,rfl,rr,zs,ms,GH,gs.length,rfl,hJ _ _ t2,zp t3 hJ,inp,λm hm=>(qt m hm).1,h1,by omega,λqu Kv Kx iw pQ qv=>?_⟩
  have fO:=hJ.trans iw;have kQ:=fO _ _ t4';have qw:=zT GB fO;have kR:=s4.trans fO;refine ⟨_,rfl,rb,rfl,⟨_,SqL.of kQ⟩,jJ (K:=K) (xs:=ws) (λi ys H'=>i<=ws.length/\Same Kx H'/\Al2 (BqH K 5990 H') ys (((es.map (atB last)).map (mB R)).take i)) ⟨Nat.zero_le _,Same.refl _,trivial⟩ (by rw [sizeLine_eq]; omega) (λi ys H' z=>by obtain ⟨l,_,e⟩:=z; have:=Al2.len e; rw [List.length_take,List.length_map] at this; omega) (λi ys H' z=>by obtain ⟨_,g',_⟩:=z; exact SqL.of (g' _ _ kQ)) ?_ ?_⟩
  ·rintro i x ys Ky Q1 hx ⟨hi,dg,hy⟩ kq;obtain ⟨g,hg,hq⟩:=Al2.get (zT qw dg) hx;obtain ⟨_,_,_,_,_,_,_,_,_,_,⟨d0,d1,d2,d3,d4,d5⟩,_⟩:=id hq;have fm:FB 5990 (mB R g).x:=((ix.sub d0).sub d2).mono (by decide)
   refine ⟨_,rfl,_,rfl,x,g,2300,5990,rp,r0,r1,R,rfl,hq,Kw.Same.tup (kR.trans dg) fL,Kw.Same.tup (kR.trans dg) fM,ix,by decide,fm,d1.mono (by decide),λGK Kz kT KA=>kq _ _ ⟨(List.getElem?_eq_some_iff.mp hx).1,dg.trans kT,?_⟩⟩
   rw [zU (map_at hg)];exact Al2.snoc (zT hy kT) KA
  rintro qx Ky ⟨_,dg,kU⟩ GK n18;rw [lws,<- List.length_map (f:=mB R),List.take_length] at kU;obtain ⟨Kz,nO,kT,KB⟩:=newO n18 (.lst qx);rw [nO];clear nO;refine ⟨_,rfl,by show 4<=sizeLine; decide,?_⟩
  intro KC KD;obtain ⟨KF,nP,qy,KG⟩:=newO KD (.tup [.str (Str.ofString wd),.ref qu,.ref GK,.ref rn]);rw [nP];clear nP;have dL:=dg.trans (kT.trans qy);have kW:=fO.trans dL;have qz:Dp K KF (.ref KC) (tlpD wd GH ((es.map (atB last)).map (mB R)) last):=.tup (SqT.of KG) (.cons (.str _) (.cons (.lst (SqL.of (dL _ _ pQ)) (mps_dp (zp qv dL))) (.cons (.lst (SqL.of (qy _ _ KB)) (bqs_dp (zT kU (kT.trans qy)))) (.cons (FQ.dp (Kw.Same.tup kW t6)) .nil))));refine ⟨_,kP.same (iw.trans dL),qz,(tlp_ok wok _ _ _).1,(tlp_ok wok _ _ _).2,_,rfl,iteF ?_⟩;exact hN _ _ ⟨_,_,_,_,_,_,_,_,_,_,rfl,sm.trans (But.fresh Ks (Kt.trans (But.of (s4.trans kW))))⟩
 ·rintro σ0 H0 ⟨u1,u2,u3,u4,u5,u6,u7,u8,u9,u10,rfl,sm⟩;exact fin _
end
theorem len1 {p:List Value->Prop} (h:∀ x0,p [x0]):∀ us:List Value,us.length=1->p us:=by
 intro us e;cases us with
 |nil=>exact absurd e (by show ¬ 0=1; decide)
 |cons x0 us=>
  cases us with
  |nil=>exact h x0
  |cons y us=>exact absurd e (by show ¬ us.length+2=1; omega)
theorem len2 {p:List Value->Prop} (h:∀ x0 x1,p [x0,x1]):∀ us:List Value,us.length=2->p us:=by
 intro us e;cases us with
 |nil=>exact absurd e (by show ¬ 0=2; decide)
 |cons x0 us=>
  cases us with
  |nil=>exact absurd e (by show ¬ 1=2; decide)
  |cons x1 us=>
   cases us with
   |nil=>exact h x0 x1
   |cons y us=>exact absurd e (by show ¬ us.length+3=2; omega)
theorem len3 {p:List Value->Prop} (h:∀ x0 x1 x2,p [x0,x1,x2]):∀ us:List Value,us.length=3->p us:=by
 intro us e;cases us with
 |nil=>exact absurd e (by show ¬ 0=3; decide)
 |cons x0 us=>
  cases us with
  |nil=>exact absurd e (by show ¬ 1=3; decide)
  |cons x1 us=>
   cases us with
   |nil=>exact absurd e (by show ¬ 2=3; decide)
   |cons x2 us=>
    cases us with
    |nil=>exact h x0 x1 x2
    |cons y us=>exact absurd e (by show ¬ us.length+4=3; omega)
theorem len5 {p:List Value->Prop} (h:∀ x0 x1 x2 x3 x4,p [x0,x1,x2,x3,x4]):∀ us:List Value,us.length=5->p us:=by
 intro us e;cases us with
 |nil=>exact absurd e (by show ¬ 0=5; decide)
 |cons x0 us=>
  cases us with
  |nil=>exact absurd e (by show ¬ 1=5; decide)
  |cons x1 us=>
   cases us with
   |nil=>exact absurd e (by show ¬ 2=5; decide)
   |cons x2 us=>
    cases us with
    |nil=>exact absurd e (by show ¬ 3=5; decide)
    |cons x3 us=>
     cases us with
     |nil=>exact absurd e (by show ¬ 4=5; decide)
     |cons x4 us=>
      cases us with
      |nil=>exact h x0 x1 x2 x3 x4
      |cons y us=>exact absurd e (by show ¬ us.length+6=5; omega)
set_option maxHeartbeats 0 in
noncomputable abbrev LkF (K:Frag) (x:Str) (st:Stmt) (f:Addr) (oc:Value) (od:Option Addr) (kV dc pm:Value) (an:Option Addr) (cd ct:Value) (sl:Array (Option Value)):Prop:=K.lookup f=some ⟨oc,od,.func (fnOf x x (zK st) (zJ st) (zD st) .none kV dc pm an cd ct),sl⟩
theorem all_mk {P:Program} {w:World} {K:Frag} {h:Heap} {mg:Str->Option Value} (X:K.In h) (G:h.Ns mainGlobals mg)
  {C_Plane f0 f1 f2 f3 f4 f5 f6 f7 f8 f9 qA qB qC qD qE qF qG qH qI qJ qK qL qM qN nQ nR nT nU nV nW nX nY nZ oa og oh oi oj ol oo oq qO f42 ot qP qQ qR qS qT qU qV qW qX qY qZ re rg rh rj rl rm rA rB rC rD rE rF rG rH rJ rK rL rM d2:Addr}
  {KH KI KJ KK GL KL KM KN KO KP GM oE KQ KR KS KU GN oF o4 KW KY KZ GO K0 K1 K2 K3 K4 GP K5 gu K6 K7 K8 GQ K9 La Lb Lc Ld GR Le Fr Lf Lg Lh GS Li Lj Lk Ll Lm GT Ln Lo Lp Lq Lr GU Ls rN rO rP rQ kX rR rS rT rV rW kY rX gI rY rZ sd kZ se sf sg sn sr lc su sv sx sy sB lj sD sE sF sG sH lu sI sJ sK sL sM lv sN sO sQ sR sS lw sT sU sV sW sX lA sY sZ tf tj tm lB tw tz tD tE tF lC tG tH tJ tK tL lE tM tN tO tP tQ lF tR tS tT tU tV lG tW tX tY tZ ua lH ub uc ud ue uf lI ug uh ui uj uk lJ ul um uo uq ur lK ut uu uv uw ux lL uy uz uA uB uC lM uD uE uF uG uH lN uI uJ uK uL uM lO uN uO uP uQ uR lP uS uT uU uV uW lQ uX uY uZ vc vd lR ve vf vg vh vk lT vm vn vo vq vt lU vv vw vx vy vz lV vA vB vC vD vE lW vF vG vH vI vJ lX vK vL vM vN vO lY vP vQ vR vS vT lZ vU vV vW vX vY ma vZ v6 v7 v8 v9 mh wc we wf wg wj mi wm wo wp wq wr mj wu ww wA wB wC ml wD wE wF wG wH mm wI wJ wK wL wM mn wN wO wP wQ wR mr wS wT wU wW wX mv wY wZ w9 xa xb mw xc xf xg xh xi mx xj xk xl xm xn my xo xp xq xt xu mz xv xw xx xz xA mD xC xD xE xF xG mE xH xI xJ xL xM mF xN xO xQ xS xT mG xU xV xW xX xY mH xZ x8 x9 Aa Ab mJ Ac Ad Ae Af Ag mK Ah Ai Aj Ak Al mL Am An Ao Ap Aq mM As At Au Av Aw mN Ax Ay Az AA AB mO AC AD AE AF AG mQ AH AI AJ AK AL mR AM AN AO AQ AR mS AS AT AU AV AW mT AX AY AZ A0 A1 mU A2 A3 A4 A5 A6 mV A7 A8 A9 Ba Bb mW Bc:Value}
  {Lu Lv Lw Lx Ly dI Lz LA LB LC LD LE LF LG LH LI LJ LK LL LM Be Bf Bg Bh Bi Bj Bk Bl Bm Bn Bo Bp Br Bs Bt Bu Bv Bw By Bz BA BB BC BD BE BF BG BH BI BJ BK BL BM BN BO BP BQ BR BS BT BU BV BW BX BY BZ B0 B1 B2 B4 B5 B6 B7 B8 B9 Ca Cb Cc Cd Ce Cf Cg Ch Ci Cj Ck Cl Cm Cn Co Cp Cq Cr Cs Ct Cu Cv Cw Cy Cz CB CC CD CF CG CH CI CJ CL CM CN CO CP CQ CS CT CU CV CW CY CZ C0 C1 C2 C3 C4 C5 C6 C7 C8 C9 Db Dc Dd De Dg Dh Di Dj Dk Dl Dm Dn Do Dq Dr:Option Addr}
  {LN LO hU LP LQ LR LS LT LU LV Dt Du Dv Dw Dx Dy Dz DA DB DC DD DE DF DG DH DI DJ DK DL DM DN DO DP DQ DR DS DT DU DV DW DX DY DZ Ea Eb Ec Ed Ee Ef Eg Eh Ei Ej Ek El Em En Eo Ep Es Et Eu Ev Ew Ex Ey Ez EA EB EC ED EF EG:Array (Option Value)}
  {LW:Value} {LX:Option Addr} {LY:Tok} {LZ:Nat} {EH:Array (Option Value)}
  {tk_LONG_BITS:Tok}
  {A_NOUGHT:Addr} {oG_NOUGHT:Option Addr} {k1_NOUGHT k2_NOUGHT:Tok} {nG_NOUGHT:Nat} {slG_NOUGHT:Array (Option Value)}
  {tk_ACROSS:Tok}
  {tk_ALONG:Tok}
  {tk_SIZES:Tok}
  {tk_SPEEDS:Tok}
  {A_ALL:Addr} {oG_ALL:Option Addr} {k1_ALL k2_ALL:Tok} {nG_ALL:Nat} {slG_ALL:Array (Option Value)}
  {A_WORDS:Addr} {oG_WORDS:Option Addr} {k1_WORDS k2_WORDS:Tok} {nG_WORDS:Nat} {slG_WORDS:Array (Option Value)}
  {tk_NEAR_WALL:Tok}
  {tk_FAR_WALL:Tok}
  {tk_MOST_WEIGHT:Tok}
  {tk_MOST_BOXES:Tok}
  {tk_MOST_MOMENTS:Tok}
  (c_Plane:nsIn K mainGlobals "Plane"=some (some (.ref C_Plane)))
  (b_isinstance:nsIn K mainGlobals "isinstance"=some none)
  (b_int:nsIn K mainGlobals "int"=some none)
  (b_bool:nsIn K mainGlobals "bool"=some none)
  (b_tuple:nsIn K mainGlobals "tuple"=some none)
  (b_list:nsIn K mainGlobals "list"=some none)
  (b_abs:nsIn K mainGlobals "abs"=some none)
  (b_len:nsIn K mainGlobals "len"=some none)
  (b_divmod:nsIn K mainGlobals "divmod"=some none)
  (b_range:nsIn K mainGlobals "range"=some none)
  (b_max:nsIn K mainGlobals "max"=some none)
  (b_min:nsIn K mainGlobals "min"=some none)
  (b_all:nsIn K mainGlobals "all"=some none)
  (b_any:nsIn K mainGlobals "any"=some none)
  (b_sorted:nsIn K mainGlobals "sorted"=some none)
  (b_set:nsIn K mainGlobals "set"=some none)
  (pg_Plane:plainGet K C_Plane Str.empty=true)
  (hd_Plane:hasDictIn K C_Plane=true)
  (po_Plane:plainOver K C_Plane=true)
  (sa_Plane:findIn K (.ref C_Plane) "__setattr__"=some (some (.builtin "object.__setattr__")))
  (mk_Plane:makesIn K C_Plane=true)
  (kp_Plane:keepIn K (.ref C_Plane)=true)
  (n_Plane_walls:findIn K (.ref C_Plane) "walls"=some none)
  (n_Plane_goings:findIn K (.ref C_Plane) "goings"=some none)
  (n_Plane_now:findIn K (.ref C_Plane) "now"=some none)
  (n_Plane_gone_through:findIn K (.ref C_Plane) "gone_through"=some none)
  (n_Plane_joints:findIn K (.ref C_Plane) "joints"=some none)
  (n_Plane_coming:findIn K (.ref C_Plane) "coming"=some none)
  (n_Plane_due:findIn K (.ref C_Plane) "due"=some none)
  (i_LONG_BITS:nsIn K mainGlobals "LONG_BITS"=some (some (.int 4000 tk_LONG_BITS)))
  (c_NOUGHT:nsIn K mainGlobals "NOUGHT"=some (some (.ref A_NOUGHT)))
  (z_NOUGHT:K.lookup A_NOUGHT=some ⟨.type "tuple",oG_NOUGHT,.seq #[.int 0 k1_NOUGHT,.int 1 k2_NOUGHT] nG_NOUGHT,slG_NOUGHT⟩)
  (i_ACROSS:nsIn K mainGlobals "ACROSS"=some (some (.int 0 tk_ACROSS)))
  (i_ALONG:nsIn K mainGlobals "ALONG"=some (some (.int 1 tk_ALONG)))
  (i_SIZES:nsIn K mainGlobals "SIZES"=some (some (.int 2 tk_SIZES)))
  (i_SPEEDS:nsIn K mainGlobals "SPEEDS"=some (some (.int 4 tk_SPEEDS)))
  (c_ALL:nsIn K mainGlobals "ALL"=some (some (.ref A_ALL)))
  (z_ALL:K.lookup A_ALL=some ⟨.type "tuple",oG_ALL,.seq #[.int 1 k1_ALL,.int 1 k2_ALL] nG_ALL,slG_ALL⟩)
  (c_WORDS:nsIn K mainGlobals "WORDS"=some (some (.ref A_WORDS)))
  (z_WORDS:K.lookup A_WORDS=some ⟨.type "tuple",oG_WORDS,.seq #[.str "across" k1_WORDS,.str "along" k2_WORDS] nG_WORDS,slG_WORDS⟩)
  (i_NEAR_WALL:nsIn K mainGlobals "NEAR_WALL"=some (some (.int (-1) tk_NEAR_WALL)))
  (i_FAR_WALL:nsIn K mainGlobals "FAR_WALL"=some (some (.int (-2) tk_FAR_WALL)))
  (i_MOST_WEIGHT:nsIn K mainGlobals "MOST_WEIGHT"=some (some (.int 1000 tk_MOST_WEIGHT)))
  (i_MOST_BOXES:nsIn K mainGlobals "MOST_BOXES"=some (some (.int 6 tk_MOST_BOXES)))
  (i_MOST_MOMENTS:nsIn K mainGlobals "MOST_MOMENTS"=some (some (.int 40 tk_MOST_MOMENTS)))
  (a0:nsIn K mainGlobals "is_whole"=some (some (.ref f0)))
  (l0:LkF K "is_whole" (top 9) f0 KH Lu KI KJ KK Lv GL KL LN)
  (q0:codeIn K GL "is_whole"=true)
  (k0:keepIn K (.ref f0)=true)
  (a1:nsIn K mainGlobals "common_divisor"=some (some (.ref f1)))
  (l1:LkF K "common_divisor" (top 11) f1 KM Lw KN KO KP Lx GM oE LO)
  (q1:codeIn K GM "common_divisor"=true)
  (k1:keepIn K (.ref f1)=true)
  (a2:nsIn K mainGlobals "fraction"=some (some (.ref f2)))
  (l2:K.lookup f2=some ⟨KQ,Ly,.func (fnOf "fraction" "fraction" (zK (top 13)) (zJ (top 13)) (zD (top 13)) (.ref d2) KR KS KU dI GN oF),hU⟩)
  (q2:codeIn K GN "fraction"=true)
  (k2:keepIn K (.ref f2)=true)
  (g2:K.lookup d2=some ⟨LW,LX,.seq #[.int 1 LY] LZ,EH⟩)
  (a3:nsIn K mainGlobals "plus"=some (some (.ref f3)))
  (l3:LkF K "plus" (top 14) f3 o4 Lz KW KY KZ LA GO K0 LP)
  (q3:codeIn K GO "plus"=true)
  (k3:keepIn K (.ref f3)=true)
  (a4:nsIn K mainGlobals "minus"=some (some (.ref f4)))
  (l4:LkF K "minus" (top 15) f4 K1 LB K2 K3 K4 LC GP K5 LQ)
  (q4:codeIn K GP "minus"=true)
  (k4:keepIn K (.ref f4)=true)
  (a5:nsIn K mainGlobals "times"=some (some (.ref f5)))
  (l5:LkF K "times" (top 16) f5 gu LD K6 K7 K8 LE GQ K9 LR)
  (q5:codeIn K GQ "times"=true)
  (k5:keepIn K (.ref f5)=true)
  (a6:nsIn K mainGlobals "over"=some (some (.ref f6)))
  (l6:LkF K "over" (top 17) f6 La LF Lb Lc Ld LG GR Le LS)
  (q6:codeIn K GR "over"=true)
  (k6:keepIn K (.ref f6)=true)
  (a7:nsIn K mainGlobals "under"=some (some (.ref f7)))
  (l7:LkF K "under" (top 18) f7 Fr LH Lf Lg Lh LI GS Li LT)
  (q7:codeIn K GS "under"=true)
  (k7:keepIn K (.ref f7)=true)
  (a8:nsIn K mainGlobals "far_side"=some (some (.ref f8)))
  (l8:LkF K "far_side" (top 39) f8 Lj LJ Lk Ll Lm LK GT Ln LU)
  (q8:codeIn K GT "far_side"=true)
  (k8:keepIn K (.ref f8)=true)
  (a9:nsIn K mainGlobals "have_in_common"=some (some (.ref f9)))
  (l9:LkF K "have_in_common" (top 41) f9 Lo LL Lp Lq Lr LM GU Ls LV)
  (q9:codeIn K GU "have_in_common"=true)
  (k9:keepIn K (.ref f9)=true)
  (L0:nsIn K mainGlobals "touches"=some (some (.ref qA)))
  (L5:LkF K "touches" (top 43) qA rN Be rO rP rQ Bf kX rR Dt)
  (gA:codeIn K kX "touches"=true)
  (L6:keepIn K (.ref qA)=true)
  (L7:nsIn K mainGlobals "are_beside"=some (some (.ref qB)))
  (L8:LkF K "are_beside" (top 44) qB rS Bg rT rV rW Bh kY rX Du)
  (dW:codeIn K kY "are_beside"=true)
  (L9:keepIn K (.ref qB)=true)
  (Ma:nsIn K mainGlobals "are_at_a_corner"=some (some (.ref qC)))
  (Mb:LkF K "are_at_a_corner" (top 45) qC gI Bi rY rZ sd Bj kZ se Dv)
  (dU:codeIn K kZ "are_at_a_corner"=true)
  (Mc:keepIn K (.ref qC)=true)
  (Md:nsIn K mainGlobals "place_at"=some (some (.ref qD)))
  (Me:LkF K "place_at" (top 24) qD sf Bk sg sn sr Bl lc su Dw)
  (gD:codeIn K lc "place_at"=true)
  (Mf:keepIn K (.ref qD)=true)
  (Mg:nsIn K mainGlobals "box_at"=some (some (.ref qE)))
  (Mh:LkF K "box_at" (top 46) qE sv Bm sx sy sB Bn lj sD Dx)
  (gE:codeIn K lj "box_at"=true)
  (o6:keepIn K (.ref qE)=true)
  (Mi:nsIn K mainGlobals "near_going"=some (some (.ref qF)))
  (Mj:LkF K "near_going" (top 47) qF sE Bo sF sG sH Bp lu sI Dy)
  (Ml:codeIn K lu "near_going"=true)
  (Mm:keepIn K (.ref qF)=true)
  (Mn:nsIn K mainGlobals "far_going"=some (some (.ref qG)))
  (qu:LkF K "far_going" (top 48) qG sJ Br sK sL sM Bs lv sN Dz)
  (Mo:codeIn K lv "far_going"=true)
  (Mp:keepIn K (.ref qG)=true)
  (Mq:nsIn K mainGlobals "with_near_going"=some (some (.ref qH)))
  (Mr:LkF K "with_near_going" (top 49) qH sO Bt sQ sR sS Bu lw sT DA)
  (Ms:codeIn K lw "with_near_going"=true)
  (Mt:keepIn K (.ref qH)=true)
  (Mu:nsIn K mainGlobals "with_far_going"=some (some (.ref qI)))
  (Mv:LkF K "with_far_going" (top 50) qI sU Bv sV sW sX Bw lA sY DB)
  (nO:codeIn K lA "with_far_going"=true)
  (Mw:keepIn K (.ref qI)=true)
  (Mx:nsIn K mainGlobals "mixed"=some (some (.ref qJ)))
  (My:LkF K "mixed" (top 26) qJ sZ By tf tj tm Bz lB tw DC)
  (nP:codeIn K lB "mixed"=true)
  (Mz:keepIn K (.ref qJ)=true)
  (MA:nsIn K mainGlobals "behind"=some (some (.ref qK)))
  (MB:LkF K "behind" (top 27) qK tz BA tD tE tF BB lC tG DD)
  (MC:codeIn K lC "behind"=true)
  (MD:keepIn K (.ref qK)=true)
  (ME:nsIn K mainGlobals "turned_about"=some (some (.ref qL)))
  (MF:LkF K "turned_about" (top 52) qL tH BC tJ tK tL BD lE tM DE)
  (MG:codeIn K lE "turned_about"=true)
  (MH:keepIn K (.ref qL)=true)
  (MI:nsIn K mainGlobals "parted"=some (some (.ref qM)))
  (MJ:LkF K "parted" (top 63) qM tN BE tO tP tQ BF lF tR DF)
  (MK:codeIn K lF "parted"=true)
  (ML:keepIn K (.ref qM)=true)
  (MM:nsIn K mainGlobals "joint_moment"=some (some (.ref qN)))
  (MN:LkF K "joint_moment" (top 25) qN tS BG tT tU tV BH lG tW DG)
  (MO:codeIn K lG "joint_moment"=true)
  (MP:keepIn K (.ref qN)=true)
  (MQ:findIn K (.ref C_Plane) "one_of"=some (some (.ref nQ)))
  (MR:isFn K (.ref nQ)=true)
  (MS:K.lookup nQ=some ⟨tX,BI,.func (fnOf "one_of" "Plane.one_of" (zK (zO (top 65) 1)) (zJ (zO (top 65) 1)) (zD (zO (top 65) 1)) .none tY tZ ua BJ lH ub),DH⟩)
  (MT:codeIn K lH "Plane.one_of"=true)
  (o7:keepIn K (.ref nQ)=true)
  (MU:findIn K (.ref C_Plane) "other_of"=some (some (.ref nR)))
  (MV:isFn K (.ref nR)=true)
  (MW:K.lookup nR=some ⟨uc,BK,.func (fnOf "other_of" "Plane.other_of" (zK (zO (top 65) 2)) (zJ (zO (top 65) 2)) (zD (zO (top 65) 2)) .none ud ue uf BL lI ug),DI⟩)
  (MX:codeIn K lI "Plane.other_of"=true)
  (MY:keepIn K (.ref nR)=true)
  (MZ:findIn K (.ref C_Plane) "joint_of"=some (some (.ref nT)))
  (M0:isFn K (.ref nT)=true)
  (M1:K.lookup nT=some ⟨uh,BM,.func (fnOf "joint_of" "Plane.joint_of" (zK (zO (top 65) 3)) (zJ (zO (top 65) 3)) (zD (zO (top 65) 3)) .none ui uj uk BN lJ ul),DJ⟩)
  (M2:codeIn K lJ "Plane.joint_of"=true)
  (M3:keepIn K (.ref nT)=true)
  (M4:findIn K (.ref C_Plane) "meet_at"=some (some (.ref nU)))
  (M5:isFn K (.ref nU)=true)
  (M6:K.lookup nU=some ⟨um,BO,.func (fnOf "meet_at" "Plane.meet_at" (zK (zO (top 65) 8)) (zJ (zO (top 65) 8)) (zD (zO (top 65) 8)) .none uo uq ur BP lK ut),DK⟩)
  (M7:codeIn K lK "Plane.meet_at"=true)
  (M8:keepIn K (.ref nU)=true)
  (M9:findIn K (.ref C_Plane) "close_at_a_corner"=some (some (.ref nV)))
  (Na:isFn K (.ref nV)=true)
  (Nb:K.lookup nV=some ⟨uu,BQ,.func (fnOf "close_at_a_corner" "Plane.close_at_a_corner" (zK (zO (top 65) 9)) (zJ (zO (top 65) 9)) (zD (zO (top 65) 9)) .none uv uw ux BR lL uy),DL⟩)
  (Nc:codeIn K lL "Plane.close_at_a_corner"=true)
  (Nd:keepIn K (.ref nV)=true)
  (Nf:findIn K (.ref C_Plane) "is_sooner"=some (some (.ref nW)))
  (Ng:isFn K (.ref nW)=true)
  (Nh:K.lookup nW=some ⟨uz,BS,.func (fnOf "is_sooner" "Plane.is_sooner" (zK (zO (top 65) 6)) (zJ (zO (top 65) 6)) (zD (zO (top 65) 6)) .none uA uB uC BT lM uD),DM⟩)
  (Ni:codeIn K lM "Plane.is_sooner"=true)
  (Nj:keepIn K (.ref nW)=true)
  (Nk:findIn K (.ref C_Plane) "is_coming"=some (some (.ref nX)))
  (Nl:isFn K (.ref nX)=true)
  (Nm:K.lookup nX=some ⟨uE,BU,.func (fnOf "is_coming" "Plane.is_coming" (zK (zO (top 65) 7)) (zJ (zO (top 65) 7)) (zD (zO (top 65) 7)) .none uF uG uH BV lN uI),DN⟩)
  (Nn:codeIn K lN "Plane.is_coming"=true)
  (No:keepIn K (.ref nX)=true)
  (Np:findIn K (.ref C_Plane) "look_ahead"=some (some (.ref nY)))
  (Nq:isFn K (.ref nY)=true)
  (Nr:K.lookup nY=some ⟨uJ,BW,.func (fnOf "look_ahead" "Plane.look_ahead" (zK (zO (top 65) 5)) (zJ (zO (top 65) 5)) (zD (zO (top 65) 5)) .none uK uL uM BX lO uN),DO⟩)
  (Nt:codeIn K lO "Plane.look_ahead"=true)
  (Nu:keepIn K (.ref nY)=true)
  (Nv:findIn K (.ref C_Plane) "bodies_at"=some (some (.ref nZ)))
  (Nw:isFn K (.ref nZ)=true)
  (Nx:K.lookup nZ=some ⟨uO,BY,.func (fnOf "bodies_at" "Plane.bodies_at" (zK (zO (top 65) 4)) (zJ (zO (top 65) 4)) (zD (zO (top 65) 4)) .none uP uQ uR BZ lP uS),DP⟩)
  (Ny:codeIn K lP "Plane.bodies_at"=true)
  (Nz:keepIn K (.ref nZ)=true)
  (NA:findIn K (.ref C_Plane) "meetings"=some (some (.ref oa)))
  (NB:isFn K (.ref oa)=true)
  (NC:K.lookup oa=some ⟨uT,B0,.func (fnOf "meetings" "Plane.meetings" (zK (zO (top 65) 10)) (zJ (zO (top 65) 10)) (zD (zO (top 65) 10)) .none uU uV uW B1 lQ uX),DQ⟩)
  (ND:codeIn K lQ "Plane.meetings"=true)
  (NE:keepIn K (.ref oa)=true)
  (NF:findIn K (.ref C_Plane) "boxes_met"=some (some (.ref og)))
  (NG:isFn K (.ref og)=true)
  (NH:K.lookup og=some ⟨uY,B2,.func (fnOf "boxes_met" "Plane.boxes_met" (zK (zO (top 65) 11)) (zJ (zO (top 65) 11)) (zD (zO (top 65) 11)) .none uZ vc vd B4 lR ve),DR⟩)
  (NI:codeIn K lR "Plane.boxes_met"=true)
  (nk:keepIn K (.ref og)=true)
  (NJ:findIn K (.ref C_Plane) "has_two_meetings"=some (some (.ref oh)))
  (NK:isFn K (.ref oh)=true)
  (NL:K.lookup oh=some ⟨vf,B5,.func (fnOf "has_two_meetings" "Plane.has_two_meetings" (zK (zO (top 65) 13)) (zJ (zO (top 65) 13)) (zD (zO (top 65) 13)) .none vg vh vk B6 lT vm),DS⟩)
  (NM:codeIn K lT "Plane.has_two_meetings"=true)
  (NN:keepIn K (.ref oh)=true)
  (NO:findIn K (.ref C_Plane) "is_hemmed_in"=some (some (.ref oi)))
  (NP:isFn K (.ref oi)=true)
  (NQ:K.lookup oi=some ⟨vn,B7,.func (fnOf "is_hemmed_in" "Plane.is_hemmed_in" (zK (zO (top 65) 14)) (zJ (zO (top 65) 14)) (zD (zO (top 65) 14)) .none vo vq vt B8 lU vv),DT⟩)
  (NR:codeIn K lU "Plane.is_hemmed_in"=true)
  (NS:keepIn K (.ref oi)=true)
  (NT:findIn K (.ref C_Plane) "has_a_corner"=some (some (.ref oj)))
  (NU:isFn K (.ref oj)=true)
  (NV:K.lookup oj=some ⟨vw,B9,.func (fnOf "has_a_corner" "Plane.has_a_corner" (zK (zO (top 65) 15)) (zJ (zO (top 65) 15)) (zD (zO (top 65) 15)) .none vx vy vz Ca lV vA),DU⟩)
  (NW:codeIn K lV "Plane.has_a_corner"=true)
  (NX:keepIn K (.ref oj)=true)
  (NY:findIn K (.ref C_Plane) "is_crowded"=some (some (.ref ol)))
  (NZ:isFn K (.ref ol)=true)
  (N0:K.lookup ol=some ⟨vB,Cb,.func (fnOf "is_crowded" "Plane.is_crowded" (zK (zO (top 65) 12)) (zJ (zO (top 65) 12)) (zD (zO (top 65) 12)) .none vC vD vE Cc lW vF),DV⟩)
  (N1:codeIn K lW "Plane.is_crowded"=true)
  (N2:keepIn K (.ref ol)=true)
  (N3:findIn K (.ref C_Plane) "part"=some (some (.ref oo)))
  (N4:isFn K (.ref oo)=true)
  (N5:K.lookup oo=some ⟨vG,Cd,.func (fnOf "part" "Plane.part" (zK (zO (top 65) 17)) (zJ (zO (top 65) 17)) (zD (zO (top 65) 17)) .none vH vI vJ Ce lX vK),DW⟩)
  (N6:codeIn K lX "Plane.part"=true)
  (N7:keepIn K (.ref oo)=true)
  (N8:findIn K (.ref C_Plane) "go_on"=some (some (.ref oq)))
  (N9:isFn K (.ref oq)=true)
  (Oa:K.lookup oq=some ⟨vL,Cf,.func (fnOf "go_on" "Plane.go_on" (zK (zO (top 65) 16)) (zJ (zO (top 65) 16)) (zD (zO (top 65) 16)) .none vM vN vO Cg lY vP),DX⟩)
  (Ob:codeIn K lY "Plane.go_on"=true)
  (Oc:keepIn K (.ref oq)=true)
  (Od:nsIn K mainGlobals "walls_of"=some (some (.ref qO)))
  (Oe:LkF K "walls_of" (top 62) qO vQ Ch vR vS vT Ci lZ vU DY)
  (Of:codeIn K lZ "walls_of"=true)
  (Og:keepIn K (.ref qO)=true)
  (Oh:nsIn K mainGlobals "all_pairs"=some (some (.ref f42)))
  (Oi:LkF K "all_pairs" (top 64) f42 vV Cj vW vX vY Ck ma vZ DZ)
  (Oj:codeIn K ma "all_pairs"=true)
  (Ol:keepIn K (.ref f42)=true)
  (Om:findIn K (.ref C_Plane) "__init__"=some (some (.ref ot)))
  (On:isFn K (.ref ot)=true)
  (Oo:K.lookup ot=some ⟨v6,Cl,.func (fnOf "__init__" "Plane.__init__" (zK (zO (top 65) 0)) (zJ (zO (top 65) 0)) (zD (zO (top 65) 0)) .none v7 v8 v9 Cm mh wc),Ea⟩)
  (Op:codeIn K mh "Plane.__init__"=true)
  (Oq:keepIn K (.ref ot)=true)
  (Os:nsIn K mainGlobals "end_word"=some (some (.ref qP)))
  (Ot:LkF K "end_word" (top 54) qP we Cn wf wg wj Co mi wm Eb)
  (Ou:codeIn K mi "end_word"=true)
  (Ov:keepIn K (.ref qP)=true)
  (Ow:nsIn K mainGlobals "run_along"=some (some (.ref qQ)))
  (Ox:LkF K "run_along" (top 55) qQ wo Cp wp wq wr Cq mj wu Ec)
  (Oy:codeIn K mj "run_along"=true)
  (Oz:keepIn K (.ref qQ)=true)
  (OA:nsIn K mainGlobals "is_fraction"=some (some (.ref qR)))
  (OB:LkF K "is_fraction" (top 12) qR ww Cr wA wB wC Cs ml wD Ed)
  (OC:codeIn K ml "is_fraction"=true)
  (OD:keepIn K (.ref qR)=true)
  (OE:nsIn K mainGlobals "is_breadth"=some (some (.ref qS)))
  (OF:LkF K "is_breadth" (top 36) qS wE Ct wF wG wH Cu mm wI Ee)
  (OG:codeIn K mm "is_breadth"=true)
  (OH:keepIn K (.ref qS)=true)
  (OI:nsIn K mainGlobals "is_weight"=some (some (.ref qT)))
  (OJ:LkF K "is_weight" (top 30) qT wJ Cv wK wL wM Cw mn wN Ef)
  (OK:codeIn K mn "is_weight"=true)
  (OL:keepIn K (.ref qT)=true)
  (OM:nsIn K mainGlobals "is_box"=some (some (.ref qU)))
  (ON:LkF K "is_box" (top 37) qU wO Cy wP wQ wR Cz mr wS Eg)
  (OO:codeIn K mr "is_box"=true)
  (OP:keepIn K (.ref qU)=true)
  (OQ:nsIn K mainGlobals "is_room"=some (some (.ref qV)))
  (OR:LkF K "is_room" (top 38) qV wT CB wU wW wX CC mv wY Eh)
  (OS:codeIn K mv "is_room"=true)
  (OT:keepIn K (.ref qV)=true)
  (OU:nsIn K mainGlobals "is_within"=some (some (.ref qW)))
  (OV:LkF K "is_within" (top 40) qW wZ CD w9 xa xb CF mw xc Ei)
  (OW:codeIn K mw "is_within"=true)
  (OX:keepIn K (.ref qW)=true)
  (OY:nsIn K mainGlobals "overlap"=some (some (.ref qX)))
  (OZ:LkF K "overlap" (top 42) qX xf CG xg xh xi CH mx xj Ej)
  (O0:codeIn K mx "overlap"=true)
  (O1:keepIn K (.ref qX)=true)
  (O2:nsIn K mainGlobals "refuse_boxes"=some (some (.ref qY)))
  (O3:LkF K "refuse_boxes" (top 61) qY xk CI xl xm xn CJ my xo Ek)
  (O4:codeIn K my "refuse_boxes"=true)
  (O5:keepIn K (.ref qY)=true)
  (O6:nsIn K mainGlobals "refuse_number_of_moments"=some (some (.ref qZ)))
  (O7:LkF K "refuse_number_of_moments" (top 23) qZ xp CL xq xt xu CM mz xv El)
  (O8:codeIn K mz "refuse_number_of_moments"=true)
  (O9:keepIn K (.ref qZ)=true)
  (Pa:nsIn K mainGlobals "run_in"=some (some (.ref re)))
  (Pb:LkF K "run_in" (top 66) re xw CN xx xz xA CO mD xC Em)
  (Pc:codeIn K mD "run_in"=true)
  (Pd:keepIn K (.ref re)=true)
  (Pe:nsIn K mainGlobals "_law_cell"=some (some (.ref rg)))
  (Pf:LkF K "_law_cell" (top 68) rg xD CP xE xF xG CQ mE xH En)
  (Pg:codeIn K mE "_law_cell"=true)
  (Ph:keepIn K (.ref rg)=true)
  (Pi:nsIn K mainGlobals "_law_mix"=some (some (.ref rh)))
  (Pj:LkF K "_law_mix" (top 69) rh xI CS xJ xL xM CT mF xN Eo)
  (Pk:codeIn K mF "_law_mix"=true)
  (Pn:keepIn K (.ref rh)=true)
  (Po:nsIn K mainGlobals "_law_box"=some (some (.ref rj)))
  (Pp:LkF K "_law_box" (top 70) rj xO CU xQ xS xT CV mG xU Ep)
  (Pq:codeIn K mG "_law_box"=true)
  (Ps:keepIn K (.ref rj)=true)
  (Pt:nsIn K mainGlobals "_law_take"=some (some (.ref rl)))
  (Pu:LkF K "_law_take" (top 71) rl xV CW xW xX xY CY mH xZ Es)
  (Pw:codeIn K mH "_law_take"=true)
  (Px:keepIn K (.ref rl)=true)
  (Py:nsIn K mainGlobals "_law_fit"=some (some (.ref rm)))
  (iT:LkF K "_law_fit" (top 72) rm x8 CZ x9 Aa Ab C0 mJ Ac Et)
  (Pz:codeIn K mJ "_law_fit"=true)
  (PB:keepIn K (.ref rm)=true)
  (PC:nsIn K mainGlobals "_law_plus"=some (some (.ref rA)))
  (PD:LkF K "_law_plus" (top 73) rA Ad C1 Ae Af Ag C2 mK Ah Eu)
  (PF:codeIn K mK "_law_plus"=true)
  (PH:keepIn K (.ref rA)=true)
  (PJ:nsIn K mainGlobals "_law_minus"=some (some (.ref rB)))
  (PK:LkF K "_law_minus" (top 74) rB Ai C3 Aj Ak Al C4 mL Am Ev)
  (PL:codeIn K mL "_law_minus"=true)
  (PM:keepIn K (.ref rB)=true)
  (PN:nsIn K mainGlobals "_law_less"=some (some (.ref rC)))
  (PP:LkF K "_law_less" (top 75) rC An C5 Ao Ap Aq C6 mM As Ew)
  (PQ:codeIn K mM "_law_less"=true)
  (PR:keepIn K (.ref rC)=true)
  (PU:nsIn K mainGlobals "_law_room"=some (some (.ref rD)))
  (fU:LkF K "_law_room" (top 76) rD At C7 Au Av Aw C8 mN Ax Ex)
  (PV:codeIn K mN "_law_room"=true)
  (PX:keepIn K (.ref rD)=true)
  (PY:nsIn K mainGlobals "_law_apart"=some (some (.ref rE)))
  (PZ:LkF K "_law_apart" (top 77) rE Ay C9 Az AA AB Db mO AC Ey)
  (P0:codeIn K mO "_law_apart"=true)
  (P1:keepIn K (.ref rE)=true)
  (P2:nsIn K mainGlobals "_law_boxes"=some (some (.ref rF)))
  (P3:LkF K "_law_boxes" (top 78) rF AD Dc AE AF AG Dd mQ AH Ez)
  (P4:codeIn K mQ "_law_boxes"=true)
  (P5:keepIn K (.ref rF)=true)
  (P6:nsIn K mainGlobals "_law_exchanged"=some (some (.ref rG)))
  (P7:LkF K "_law_exchanged" (top 79) rG AI De AJ AK AL Dg mR AM EA)
  (P8:codeIn K mR "_law_exchanged"=true)
  (P9:keepIn K (.ref rG)=true)
  (Qa:nsIn K mainGlobals "_law_mirrored"=some (some (.ref rH)))
  (Qb:LkF K "_law_mirrored" (top 80) rH AN Dh AO AQ AR Di mS AS EB)
  (Qc:codeIn K mS "_law_mirrored"=true)
  (Qd:keepIn K (.ref rH)=true)
  (Qe:nsIn K mainGlobals "_law_sorted"=some (some (.ref rJ)))
  (Qf:LkF K "_law_sorted" (top 81) rJ AT Dj AU AV AW Dk mT AX EC)
  (Qg:codeIn K mT "_law_sorted"=true)
  (Qh:keepIn K (.ref rJ)=true)
  (Qi:nsIn K mainGlobals "_law_other_ways"=some (some (.ref rK)))
  (Qj:LkF K "_law_other_ways" (top 82) rK AY Dl AZ A0 A1 Dm mU A2 ED)
  (Qk:codeIn K mU "_law_other_ways"=true)
  (Ql:keepIn K (.ref rK)=true)
  (Qm:nsIn K mainGlobals "_law_other_sides"=some (some (.ref rL)))
  (Qo:LkF K "_law_other_sides" (top 83) rL A3 Dn A4 A5 A6 Do mV A7 EF)
  (Qp:codeIn K mV "_law_other_sides"=true)
  (gl:keepIn K (.ref rL)=true)
  (GV:nsIn K mainGlobals "law"=some (some (.ref rM)))
  (GW:LkF K "law" (top 84) rM A8 Dq A9 Ba Bb Dr mW Bc EG)
  (Qq:codeIn K mW "law"=true)
  (Qr:keepIn K (.ref rM)=true) :
  ∃ fa,mg "law"=some (.ref fa)/\∃ fd:FuncData,(∀ (s:Shared) (u:Value),BindsTo s fd ⟨[u],[]⟩ [("script",u)])/\∀ base:Heap,K.In base->base.Ns mainGlobals mg->FnOk P w K mg base (CXE P w) 11 fa fd ["script"] (spLaw K):=by
 have T:Tx K mg (clsAt [C_Plane]):=⟨mg_none_of X G b_isinstance,mg_none_of X G b_int,mg_none_of X G b_bool,mg_none_of X G b_tuple,mg_none_of X G b_list,mg_none_of X G b_abs,mg_none_of X G b_len,mg_none_of X G b_divmod,mg_none_of X G b_range,mg_none_of X G b_max,mg_none_of X G b_min,mg_none_of X G b_all,mg_none_of X G b_any,mg_none_of X G b_sorted,mg_none_of X G b_set,mg_of X G c_Plane,⟨pg_Plane,hd_Plane,po_Plane,sa_Plane⟩,mk_Plane,kp_Plane,n_Plane_walls,n_Plane_goings,n_Plane_now,n_Plane_gone_through,n_Plane_joints,n_Plane_coming,n_Plane_due,⟨_,mg_of X G i_LONG_BITS⟩,⟨_,mg_of X G c_NOUGHT,sqt_const z_NOUGHT⟩,⟨_,mg_of X G i_ACROSS⟩,⟨_,mg_of X G i_ALONG⟩,⟨_,mg_of X G i_SIZES⟩,⟨_,mg_of X G i_SPEEDS⟩,⟨_,mg_of X G c_ALL,sqt_const z_ALL⟩,⟨_,mg_of X G c_WORDS,sqt2 z_WORDS⟩,⟨_,mg_of X G i_NEAR_WALL⟩,⟨_,mg_of X G i_FAR_WALL⟩,⟨_,mg_of X G i_MOST_WEIGHT⟩,⟨_,mg_of X G i_MOST_BOXES⟩,⟨_,mg_of X G i_MOST_MOMENTS⟩⟩;have D0:=zb (ps:=["thing"]) X G a0 l0 q0 k0 (len1 λ_=>rfl)
 have D1:=zb (ps:=["one","other"]) X G a1 l1 q1 k1 (len2 λ_ _=>rfl)
 have D2:=df_mkD (ps:=["top","bottom"]) X G a2 l2 q2 k2 g2 (len2 λ_ _=>⟨_,rfl,rfl⟩)
 have D3:=zb (ps:=["one","other"]) X G a3 l3 q3 k3 (len2 λ_ _=>rfl)
 have D4:=zb (ps:=["one","other"]) X G a4 l4 q4 k4 (len2 λ_ _=>rfl)
 have D5:=zb (ps:=["one","other"]) X G a5 l5 q5 k5 (len2 λ_ _=>rfl)
 have D6:=zb (ps:=["one","other"]) X G a6 l6 q6 k6 (len2 λ_ _=>rfl)
 have D7:=zb (ps:=["one","other"]) X G a7 l7 q7 k7 (len2 λ_ _=>rfl)
 have D8:=zb (ps:=["box","way"]) X G a8 l8 q8 k8 (len2 λ_ _=>rfl)
 have D9:=zb (ps:=["one","other","way"]) X G a9 l9 q9 k9 (len3 λ_ _ _=>rfl)
 have Qs:=zb (ps:=["one","other","way"]) X G L0 L5 gA L6 (len3 λ_ _ _=>rfl)
 have Qt:=zb (ps:=["one","other","way"]) X G L7 L8 dW L9 (len3 λ_ _ _=>rfl)
 have Qu:=zb (ps:=["one","other"]) X G Ma Mb dU Mc (len2 λ_ _=>rfl)
 have Qv:=zb (ps:=["body","moment"]) X G Md Me gD Mf (len2 λ_ _=>rfl)
 have Qw:=zb (ps:=["box","moment"]) X G Mg Mh gE o6 (len2 λ_ _=>rfl)
 have Qx:=zb (ps:=["box","way"]) X G Mi Mj Ml Mm (len2 λ_ _=>rfl)
 have Qy:=zb (ps:=["box","way"]) X G Mn qu Mo Mp (len2 λ_ _=>rfl)
 have Qz:=zb (ps:=["box","way","going"]) X G Mq Mr Ms Mt (len3 λ_ _ _=>rfl)
 have QA:=zb (ps:=["box","way","going"]) X G Mu Mv nO Mw (len3 λ_ _ _=>rfl)
 have QB:=zb (ps:=["own","far","weight","mass","share"]) X G Mx My nP Mz (len5 λ_ _ _ _ _=>rfl)
 have QC:=zb (ps:=["one","other","share"]) X G MA MB MC MD (len3 λ_ _ _=>rfl)
 have QD:=zb (ps:=["number"]) X G ME MF MG MH (len1 λ_=>rfl)
 have QE:=zb (ps:=["own","far"]) X G MI MJ MK ML (len2 λ_ _=>rfl)
 have QF:=zb (ps:=["one","other"]) X G MM MN MO MP (len2 λ_ _=>rfl)
 have QG:=yM (ps:=["self","pair","boxes"]) MQ MR MS MT o7 (len3 λ_ _ _=>rfl)
 have QH:=yM (ps:=["self","pair","boxes"]) MU MV MW MX MY (len3 λ_ _ _=>rfl)
 have QI:=yM (ps:=["self","pair"]) MZ M0 M1 M2 M3 (len2 λ_ _=>rfl)
 have QJ:=yM (ps:=["self","pair","moment"]) M4 M5 M6 M7 M8 (len3 λ_ _ _=>rfl)
 have QK:=yM (ps:=["self","pair"]) M9 Na Nb Nc Nd (len2 λ_ _=>rfl)
 have QL:=yM (ps:=["self","moment"]) Nf Ng Nh Ni Nj (len2 λ_ _=>rfl)
 have QM:=yM (ps:=["self","pair"]) Nk Nl Nm Nn No (len2 λ_ _=>rfl)
 have QN:=yM (ps:=["self"]) Np Nq Nr Nt Nu (len1 λ_=>rfl)
 have QO:=yM (ps:=["self","moment"]) Nv Nw Nx Ny Nz (len2 λ_ _=>rfl)
 have QP:=yM (ps:=["self"]) NA NB NC ND NE (len1 λ_=>rfl)
 have QQ:=yM (ps:=["self"]) NF NG NH NI nk (len1 λ_=>rfl)
 have QR:=yM (ps:=["self"]) NJ NK NL NM NN (len1 λ_=>rfl)
 have QS:=yM (ps:=["self","boxes"]) NO NP NQ NR NS (len2 λ_ _=>rfl)
 have QT:=yM (ps:=["self","boxes"]) NT NU NV NW NX (len2 λ_ _=>rfl)
 have QU:=yM (ps:=["self"]) NY NZ N0 N1 N2 (len1 λ_=>rfl)
 have QV:=yM (ps:=["self","pair"]) N3 N4 N5 N6 N7 (len2 λ_ _=>rfl)
 have QW:=yM (ps:=["self"]) N8 N9 Oa Ob Oc (len1 λ_=>rfl)
 have QX:=zb (ps:=["room"]) X G Od Oe Of Og (len1 λ_=>rfl)
 have QY:=zb (ps:=["count"]) X G Oh Oi Oj Ol (len1 λ_=>rfl)
 have QZ:=yM (ps:=["self","room","boxes"]) Om On Oo Op Oq (len3 λ_ _ _=>rfl)
 have Q0:=zb (ps:=["course","most"]) X G Os Ot Ou Ov (len2 λ_ _=>rfl)
 have Q2:=zb (ps:=["course","most"]) X G Ow Ox Oy Oz (len2 λ_ _=>rfl)
 have Q3:=zb (ps:=["thing"]) X G OA OB OC OD (len1 λ_=>rfl)
 have Q4:=zb (ps:=["thing"]) X G OE OF OG OH (len1 λ_=>rfl)
 have Q5:=zb (ps:=["thing"]) X G OI OJ OK OL (len1 λ_=>rfl)
 have Q6:=zb (ps:=["thing"]) X G OM ON OO OP (len1 λ_=>rfl)
 have Q7:=zb (ps:=["thing"]) X G OQ OR OS OT (len1 λ_=>rfl)
 have Q8:=zb (ps:=["box","room"]) X G OU OV OW OX (len2 λ_ _=>rfl)
 have Q9:=zb (ps:=["one","other"]) X G OY OZ O0 O1 (len2 λ_ _=>rfl)
 have Ra:=zb (ps:=["room","boxes"]) X G O2 O3 O4 O5 (len2 λ_ _=>rfl)
 have Rb:=zb (ps:=["most"]) X G O6 O7 O8 O9 (len1 λ_=>rfl)
 have Rc:=zb (ps:=["room","boxes","most"]) X G Pa Pb Pc Pd (len3 λ_ _ _=>rfl)
 have Re:=zb (ps:=["script","k"]) X G Pe Pf Pg Ph (len2 λ_ _=>rfl)
 have Rf:=zb (ps:=["cell","k"]) X G Pi Pj Pk Pn (len2 λ_ _=>rfl)
 have Rg:=zb (ps:=["script","k"]) X G Po Pp Pq Ps (len2 λ_ _=>rfl)
 have Rh:=zb (ps:=["box","many"]) X G Pt Pu Pw Px (len2 λ_ _=>rfl)
 have Ri:=zb (ps:=["top","bottom"]) X G Py iT Pz PB (len2 λ_ _=>rfl)
 have Rj:=zb (ps:=["one","other"]) X G PC PD PF PH (len2 λ_ _=>rfl)
 have Rk:=zb (ps:=["one","other"]) X G PJ PK PL PM (len2 λ_ _=>rfl)
 have Rl:=zb (ps:=["one","other"]) X G PN PP PQ PR (len2 λ_ _=>rfl)
 have Rm:=zb (ps:=["box"]) X G PU fU PV PX (len1 λ_=>rfl)
 have Rn:=zb (ps:=["one","other"]) X G PY PZ P0 P1 (len2 λ_ _=>rfl)
 have Ro:=zb (ps:=["box","room"]) X G P2 P3 P4 P5 (len2 λ_ _=>rfl)
 have Rp:=zb (ps:=["one"]) X G P6 P7 P8 P9 (len1 λ_=>rfl)
 have Rq:=zb (ps:=["one","room"]) X G Qa Qb Qc Qd (len2 λ_ _=>rfl)
 have Rr:=zb (ps:=["run"]) X G Qe Qf Qg Qh (len1 λ_=>rfl)
 have Rs:=zb (ps:=["run"]) X G Qi Qj Qk Ql (len1 λ_=>rfl)
 have Ru:=zb (ps:=["run"]) X G Qm Qo Qp gl (len1 λ_=>rfl)
 have Rv:=zb (ps:=["script"]) X G GV GW Qq Qr (len1 λ_=>rfl)
 refine law_end X G GV GW (λ_=>rfl) λbase kb nb=>?_
 have F0:=ok_is_whole (P:=P) (w:=w) (base:=base) D0 T;have F1:=ok_common_divisor (P:=P) (w:=w) (base:=base) D1 T;have F2:=ok_fraction (P:=P) (w:=w) (base:=base) D2 T F0 F1;have F3:=ok_plus (P:=P) (w:=w) (base:=base) D3 T F1;have F4:=ok_minus (P:=P) (w:=w) (base:=base) D4 T F3;have F5:=ok_times (P:=P) (w:=w) (base:=base) D5 T F1;have F6:=ok_over (P:=P) (w:=w) (base:=base) D6 T F5;have F7:=ok_under (P:=P) (w:=w) (base:=base) D7 T;have F8:=ok_far_side (P:=P) (w:=w) (base:=base) D8 T F3;have F9:=ok_have_in_common (P:=P) (w:=w) (base:=base) D9 T F7 F8;have GX:=ok_touches (P:=P) (w:=w) (base:=base) Qs T F8;have Rw:=ok_are_beside (P:=P) (w:=w) (base:=base) Qt T GX F9;have Rx:=ok_are_at_a_corner (P:=P) (w:=w) (base:=base) Qu T GX;have Ry:=ok_place_at (P:=P) (w:=w) (base:=base) Qv T F3 F5;have GY:=ok_box_at (P:=P) (w:=w) (base:=base) Qw T Ry;have GZ:=ok_near_going (P:=P) (w:=w) (base:=base) Qx T;have G0:=ok_far_going (P:=P) (w:=w) (base:=base) Qy T F8;have G1:=ok_with_near_going (P:=P) (w:=w) (base:=base) Qz T;have Rz:=ok_with_far_going (P:=P) (w:=w) (base:=base) QA T F4 G1;have RA:=ok_mixed (P:=P) (w:=w) (base:=base) QB T F2 F5 F3;have RB:=ok_behind (P:=P) (w:=w) (base:=base) QC T RA;have RC:=ok_turned_about (P:=P) (w:=w) (base:=base) QD T F4;have RD:=ok_parted (P:=P) (w:=w) (base:=base) QE T F4 F3 RC RB;have RE:=ok_joint_moment (P:=P) (w:=w) (base:=base) QF T F4 F6;have ow:=ok_Plane_one_of (P:=P) (w:=w) (base:=base) QG T;have oy:=ok_Plane_other_of (P:=P) (w:=w) (base:=base) QH T;have G2:=ok_Plane_joint_of (P:=P) (w:=w) (base:=base) QI T G0 ow GZ oy RE;have RF:=ok_Plane_meet_at (P:=P) (w:=w) (base:=base) QJ T GY ow oy F9;have G3:=ok_Plane_close_at_a_corner (P:=P) (w:=w) (base:=base) QK T;have RG:=ok_Plane_is_sooner (P:=P) (w:=w) (base:=base) QL T F7;have G4:=ok_Plane_is_coming (P:=P) (w:=w) (base:=base) QM T;have G5:=ok_Plane_look_ahead (P:=P) (w:=w) (base:=base) QN T RG RF G3 G4;have G6:=ok_Plane_bodies_at (P:=P) (w:=w) (base:=base) QO T GY;have RH:=ok_Plane_meetings (P:=P) (w:=w) (base:=base) QP T;have G7:=ok_Plane_boxes_met (P:=P) (w:=w) (base:=base) QQ T;have RI:=ok_Plane_has_two_meetings (P:=P) (w:=w) (base:=base) QR T G7;have RJ:=ok_Plane_is_hemmed_in (P:=P) (w:=w) (base:=base) QS T Rw ow oy;have RK:=ok_Plane_has_a_corner (P:=P) (w:=w) (base:=base) QT T G7 Rx G4 G3;have RL:=ok_Plane_is_crowded (P:=P) (w:=w) (base:=base) QU T G6 RI RJ RK;have RM:=ok_Plane_part (P:=P) (w:=w) (base:=base) QV T ow oy G0 GZ Rz G1 RD G2;have RN:=ok_Plane_go_on (P:=P) (w:=w) (base:=base) QW T RM G5;have RO:=ok_walls_of (P:=P) (w:=w) (base:=base) QX T;have RP:=ok_all_pairs (P:=P) (w:=w) (base:=base) QY T;have RQ:=ok_Plane___init__ (P:=P) (w:=w) (base:=base) QZ T RO RP G2 G5;have RS:=ok_end_word (P:=P) (w:=w) (base:=base) Q0 T RL;have RT:=ok_run_along (P:=P) (w:=w) (base:=base) Q2 T RS RH RN G6
 have G8:=ok_is_fraction (P:=P) (w:=w) (base:=base) Q3 T F0 F1;have G9:=ok_is_breadth (P:=P) (w:=w) (base:=base) Q4 T G8 F7;have RU:=ok_is_weight (P:=P) (w:=w) (base:=base) Q5 T F0;have RV:=ok_is_box (P:=P) (w:=w) (base:=base) Q6 T G8 G9 RU;have RW:=ok_is_room (P:=P) (w:=w) (base:=base) Q7 T G9;have RX:=ok_is_within (P:=P) (w:=w) (base:=base) Q8 T F7 F8;have RY:=ok_overlap (P:=P) (w:=w) (base:=base) Q9 T F9;have RZ:=ok_refuse_boxes (P:=P) (w:=w) (base:=base) Ra T RW RV RX RY;have R0:=ok_refuse_number_of_moments (P:=P) (w:=w) (base:=base) Rb T F0;have R3:=ok_run_in (P:=P) (w:=w) (base:=base) Rc T RZ R0 RQ RT;have R4:=ok_law_cell (P:=P) (w:=w) (base:=base) Re T;have R5:=ok_law_mix (P:=P) (w:=w) (base:=base) Rf T;have R6:=ok_law_box (P:=P) (w:=w) (base:=base) Rg T R4 R5;have EI:=ok_law_take (P:=P) (w:=w) (base:=base) Rh T;have oz:=ok_law_fit (P:=P) (w:=w) (base:=base) Ri T;have Ha:=ok_law_plus (P:=P) (w:=w) (base:=base) Rj T oz;have R7:=ok_law_minus (P:=P) (w:=w) (base:=base) Rk T oz;have Hd:=ok_law_less (P:=P) (w:=w) (base:=base) Rl T;have R8:=ok_law_room (P:=P) (w:=w) (base:=base) Rm T EI oz;have R9:=ok_law_apart (P:=P) (w:=w) (base:=base) Rn T Hd Ha;have Sa:=ok_law_boxes (P:=P) (w:=w) (base:=base) Ro T EI oz Hd Ha R9;have Sb:=ok_law_exchanged (P:=P) (w:=w) (base:=base) Rp T;have Sc:=ok_law_mirrored (P:=P) (w:=w) (base:=base) Rq T R7;have He:=ok_law_sorted (P:=P) (w:=w) (base:=base) Rr T;have Sd:=ok_law_other_ways (P:=P) (w:=w) (base:=base) Rs T He;have Se:=ok_law_other_sides (P:=P) (w:=w) (base:=base) Ru T He;have Sf:=ok_law (P:=P) (w:=w) (base:=base) Rv T R6 R8 Sa EI R3 Sb Sd Sc Se;exact Sf
end Prf
namespace Kw
open PySem PySem.Spec PyProof.Rows L2
theorem walk_kwX {pn:Str} {l:PySem.W.OpenLaw} {k:Nat} {q:Program} {loose:List Str} {XP:(Str->Option Value)->Heap->Prop} {Hf:List Addr} {n0 t0:Nat} {d:DefRec} {K:Params->Frag}
  (hn:l.most=some 63) (hdf:d.params.defaults=[]) (hr:Room k callerA) (hK:∀ P,Hf=(K P).map (·.1)) (hnm:d.name="law")
  (F:∀ (w:World) (mg:Str->Option Value) (h:Heap),(K w.params).In h->h.Ns mainGlobals mg->∃ fa,mg "law"=some (.ref fa)/\∃ fd:FuncData,(∀ (s:Shared) (u:Value),BindsTo s fd ⟨[u],[]⟩ [(pn,u)])/\
   ∀ base:Heap,(K w.params).In base->base.Ns mainGlobals mg->FnOk l.prog w (K w.params) mg base (CXE l.prog w) k fa fd [pn] (spLaw (K w.params))) :
  PySem.W.WalkX q loose XP (PySem.W.X.obsZ Hf) (PySem.W.X.valZ K n0 t0) l.row.toRowW d [] (λf vs=>PySem.call f vs):=by
 intro w s₀ s₁ mg mb G Y fa o pm cd doc dV kV ho hd hcd hD hmg hg args vals as L hpre hlay hrd hwl hlo;exact walk_kw (YP:=λw h=>(K w.params).In h) hn hdf hr (λ_ _ z=>z) hnm F w s₀ s₁ mg mb G (PySem.W.InK.keeps w _ _ (PySem.W.X.z_facts hK Y).2.1 L.keeps) fa o pm cd doc dV kV ho hd hcd hD hmg hg args vals as hpre hlay hrd hwl hlo
end Kw
noncomputable def PySem.W.Fast.tw12492987839430192015:PySem.Program:=PySem.Challenge.pw_knockwright_k78_whole_seen_otherwise
theorem PySem.W.Fast.te12492987839430192015:PySem.Challenge.pw_knockwright_k78_whole_seen_otherwise=PySem.W.Fast.tw12492987839430192015:=rfl
namespace PySem.W.Fast
def tw14146894332344122019:=True
def tw14968027255876853047:=True
def tw10693530998461422856:=True
def tw528252347357484430:=True
def tw17299313917188711897:=True
def tw9288141649115783752:=True
def tw2724066467815102765:=True
def tw14260133382933535521:=True
def tw6888817380017013870:=True
def tw2246419374119848407:=True
def tw9877051672646177835:=True
def tw6035373631483639324:=True
def tw13286101282034008710:=True
def tw6487081692110084836:=True
def tw3675258344086947569:=True
def tw13242577353034976057:=True
def tw15941598373218569062:=True
def tw10205058220227878565:=True
def tw7572936453509629936:=True
def tw17627796100110360778:=True
def tw6250911660874532423:=True
def tw5744752176121321859:=True
def tw15222702761541461547:=True
def tw17485109127533812616:=True
def tw12725638461265837883:=True
def tw6765570444022588166:=True
def tw964518226886677073:=True
def tw8915305454028314242:=True
def tw390502122583066933:=True
def tw3573120281038695912:=True
def tw13997191357170295355:=True
def tw7567684149001446097:=True
def tw5424932900685931140:=True
def tw8312881608906175884:=True
def tw16785706870812455184:=True
def tw4159538707540885303:=True
def tw15187622859664447393:=True
def tw6018181936554508702:=True
def tw7109895465734670404:=True
def tw16730464355668551151:=True
def tw1665856340714757675:=True
def tw16838142767405257786:=True
def tw11133965470267586823:=True
def tw7569271963428766225:=True
def tw10485088443313143586:=True
def tw3925816523020977741:=True
def tw3013760265124322219:=True
def tw14133189627184446740:=True
def tw6213219941612546701:=True
def tw9984987446199318228:=True
def tw4101189978326784848:=True
def tw920095626096796161:=True
def tw4973010179911381956:=True
def tw12625996823310991365:=True
def tw3213954333662830889:=True
def tw218962435579694038:=True
def tw14002880693840690629:=True
def tw2151692926264743719:=True
def tw6421226264728311801:=True
def tw3879624239868352878:=True
def tw1380313119992495872:=True
def tw7191295013393625029:=True
def tw7622635596304231566:=True
def tw8233282262906542219:=True
def tw13892893348148528100:=True
def tw11850535753557623842:=True
def tw12453407329415729182:=True
def tw11481020083781251479:=True
def tw3533252590562565657:=True
def tw11425257594838635426:=True
def tw2347723813133785208:=True
def tw12061734489148100001:=True
def tw9347055436361062117:=True
def tw15276128497173712934:=True
def tw17909397251564223008:=True
def tw12315113593701791854:=True
def tw6142582797750324927:=True
def tw153001452472254939:=True
def tw6925954534208259245:=True
def tw9050883782946416669:=True
def tw13655921739101546710:=True
def tw9821789217972842230:=True
def tw10704574403887460802:=True
def tw10230557462599030365:=True
def tw10815687493621422077:=True
def tw15731220421136695229:=True
def tw13217830918640978691:=True
def tw12610838721587141088:=True
def tw3914585304099266842:=True
def tw230591288206421942:=True
def tw18105381348379354723:=True
def tw10511425514789338471:=True
def tw9305801847252737199:=True
def tw18281046090149679480:=True
def tw5145606032112239322:=True
def tw2055945904703298899:=True
def tw8045522098837077243:=True
def tw10838803824754638665:=True
def tw13142343232371457309:=True
def tw2215954472624637073:=True
def tw7590750571653435273:=True
def tw11877251303258684657:=True
def tw3368690489916308683:=True
def tw14963825855593726923:=True
def tw7960067991793793155:=True
def tw12476980885559650346:=True
def tw12137701288161249515:=True
def tw18446127961704281721:=True
def tw13360459926257878459:=True
def tw17913265260949048157:=True
def tw11510035895451573634:=True
def tw8752036504730912125:=True
def tw3317131590546277239:=True
def tw9025842891328182472:=True
def tw2263286823840379217:=True
def tw9226431093980710740:=True
def tw16768647630478208215:=True
def tw15400107786140667522:=True
def tw4336148574889424431:=True
def tw6163899048057636672:=True
def tw1261191888795857545:=True
def tw15228055124813828239:=True
def tw14405382446167551889:=True
def tw7081719065618284242:=True
def tw16595982368631644161:=True
def tw1336237943927589647:=True
def tw13799291396041707417:=True
def tw6126344140369760699:=True
def tw2728707577933030074:=True
def tw1136156930397994580:=True
def tw13161522948035002357:=True
def tw840338359258235956:=True
def tw4947469042154433295:=True
def tw13205872389391651097:=True
def tw14365237154169537040:=True
def tw15440783991280096233:=True
def tw3438604411833013864:=True
def tw10232879031674595690:=True
def tw17133244445022049920:=True
def tw14858067700419540573:=True
def tw5401926525408528621:=True
def tw978704945594481823:=True
def tw15755387385951131279:=True
def tw14459455563820190145:=True
def tw397288063512071203:=True
def tw11703650429737388345:=True
def tw5631166014349890664:=True
def tw10401916478489128149:=True
def tw7799760432957637545:=True
def tw6437632161860886073:=True
def tw8736510411985416173:=True
def tw12521395191243701347:=True
def tw18164364257976449795:=True
def tw17973000199095003068:=True
def tw8834817951307693805:=True
def tw8916412635559898122:=True
def tw749586573405405173:=True
def tw1422241261158465095:=True
def tw12369040758082698879:=True
def tw12284119991527791835:=True
def tw10059005951404063941:=True
def tw715820763408929783:=True
def tw8106533278766230171:=True
def tw8468553488224369920:=True
def tw1636541663493802381:=True
def tw6253612536499344974:=True
def tw7927795041565548827:=True
def tw8031868689876278963:=True
def tw15913382354656099130:=True
def tw3827330768129292140:=True
def tw13743128630968749593:=True
def tw12487365741295840349:=True
def tw5091554614517201100:=True
def tw16823718003181979602:=True
def tw4073142101836265689:=True
def tw10815610550771701132:=True
def tw14263343455812355773:=True
def tw12828926916508364103:=True
def tw2823982652077491940:=True
def tw11657394150413369699:=True
def tw12742034134524353199:=True
def tw3688119905760013020:=True
def tw17004652619219708425:=True
def tw10283604577126938301:=True
def tw534575602335318292:=True
def tw14106531943177568185:=True
def tw7045858043109799786:=True
def tw10077277291630966326:=True
def tw14853040991062400715:=True
def tw7320461063823828861:=True
def tw7132132619751273002:=True
def tw10232182937199580330:=True
def tw10492346900274017589:=True
def tw10148947438490320657:=True
def tw15340833416758838155:=True
def tw8036483047662263978:=True
def tw5629284007026919591:=True
def tw3686612136247050275:=True
def tw5459449579285746690:=True
def tw7697474863042784614:=True
def tw15702382214975048272:=True
def tw5927617232911019926:=True
def tw16281762099550812595:=True
def tw16765590857516673201:=True
def tw18204094209759336175:=True
def tw4664815888573875846:=True
def tw14145580601863782535:=True
def tw9074969197635409942:=True
def tw5342905635568391279:=True
def tw17036846219356782525:=True
def tw9517523859437658688:=True
def tw3700680068653818811:=True
def tw15006468434225085437:=True
def tw7326125171859670686:=True
def tw12736635431344149293:=True
def tw708658390033224909:=True
def tw6025378658333530166:=True
def tw1070369006139417411:=True
def tw16619839225562636977:=True
def tw8163432886550348305:=True
def tw18313489343406027673:=True
def tw13929093590306867562:=True
def tw13592244337633277566:=True
def tw638773512566022027:=True
def tw245685684523445520:=True
def tw5512334423163800778:=True
def tw2878543232381758971:=True
def tw6966876200981187828:=True
def tw7552202232312813825:=True
def tw15549873622924894757:=True
def tw17103805394027921785:=True
def tw2624117598772312125:=True
def tw3221639050844014723:=True
def tw7438092843355821269:=True
def tw4149910313106969387:=True
def tw10558497455675088986:=True
def tw5911396891214232829:=True
def tw5544052300754947328:=True
def tw13235290885590295090:=True
def tw16177923313608739221:=True
def tw6929376691976994152:=True
def tw17738003079015621932:=True
def tw82644780421381560:=True
def tw3294715072471907739:=True
def tw9691757492908876721:=True
def tw4283388639028236908:=True
def tw15265494443939580396:=True
def tw15796799255762380252:=True
def tw14571105451073862165:=True
def tw4505039647290944481:=True
def tw5758412311541128699:=True
def tw10738846854793692685:=True
def tw12045208233529335348:=True
def tw12217591646668125357:=True
def tw18117068219218165191:=True
def tw16604149742256892689:=True
def tw8256551839657748978:=True
def tw7928032832594829959:=True
def tw16124168711036406027:=True
def tw3928333100460309601:=True
def tw15051771213702504404:=True
def tw9132417943889035251:=True
def tw13608877983250533662:=True
def tw12992232500957565279:=True
def tw17759065018707547951:=True
def tw1670127249906095430:=True
def tw13655195151429805266:=True
def tw2841774620362742009:=True
def tw13149529151310546824:=True
def tw4625606296005769924:=True
def tw5789250518868102296:=True
def tw678183883581070869:=True
def tw10727480760610955907:=True
def tw6508329500287101714:=True
def tw14643529238673831815:=True
def tw6787687237783603696:=True
def tw14101202968614044543:=True
def tw16562804379467532467:=True
def tw476554013024925909:=True
def tw2451014963871342664:=True
def tw12731374821018076549:=True
def tw10967049470079731853:=True
def tw16118870462942912783:=True
def tw3732793255569950515:=True
def tw15352351434452990586:=True
def tw17800121723394586562:=True
def tw3321638539569471279:=True
def tw11546283249960440777:=True
def tw17658728573733521221:=True
def tw12689779349666248008:=True
def tw13556244852555028825:=True
def tw5409699383417674286:=True
def tw2360203330464430203:=True
def tw4201810572042932098:=True
def tw10032117621029579426:=True
def tw2052541075220796585:=True
def tw5669022966013652342:=True
def tw13240391047596232432:=True
def tw13694748447402060423:=True
def tw8492919906573779860:=True
def tw1378326479962962203:=True
def tw17573701225484297670:=True
def tw55044366457752405:=True
def tw14442856450600557459:=True
def tw6056173479851464046:=True
def tw14932031373882097292:=True
def tw10286582773783108226:=True
def tw13148541274010733477:=True
def tw7723286673929285446:=True
def tw14893514787208030079:=True
def tw8838233992436292820:=True
def tw9754980348457977405:=True
def tw1478330820973805362:=True
def tw14691845503511415703:=True
def tw1656683596776499853:=True
def tw11359804399539681492:=True
def tw17149269766304605907:=True
def tw15622913317691893167:=True
def tw15415228647472711241:=True
def tw16419191284223994097:=True
def tw2514769458514251984:=True
def tw5634148659611180369:=True
def tw16904392666780298020:=True
def tw10804422856649131790:=True
def tw7923812023447044753:=True
def tw964154330654015121:=True
def tw18387009342404621037:=True
def tw77502232872030740:=True
def tw8193056619182699913:=True
def tw11137466040776394860:=True
def tw14267227139367673363:=True
def tw15187519997585736112:=True
def tw16756989213911441151:=True
def tw15462352309071517322:=True
def tw7768057425367003689:=True
def tw3818991441430084578:=True
def tw18107992142813394822:=True
def tw16248613881711539964:=True
def tw6520251223237995601:=True
def tw16411303445981835800:=True
def tw13570522789997374172:=True
def tw11110299100926392676:=True
def tw3840556715883318330:=True
def tw5896158795468307093:=True
def tw1365168417421901201:=True
def tw1782841085005312636:=True
def tw17776806365221977168:=True
def tw2169092473944567387:=True
def tw7193777664517157968:=True
def tw10304180691404514824:=True
def tw14458935608078865102:=True
def tw15155165403920009515:=True
def tw2783648286514250268:=True
def tw9559092087936325307:=True
def tw13614298913349569223:=True
def tw12734530630097720723:=True
def tw13951921450450485467:=True
def tw10897436100200341976:=True
def tw6895043932165155893:=True
def tw10758246636523958258:=True
def tw11493459298040560765:=True
def tw3341826352184961846:=True
def tw2588304890510214312:=True
def tw9208320532655091505:=True
def tw10419620074908564820:=True
def tw12155507716082271851:=True
def tw12651049844638537019:=True
def tw8369792352082832697:=True
def tw14212972477253195733:=True
def tw7620592464308895241:=True
def tw15794148882826027251:=True
def tw12594766485646056924:=True
def tw10379109730277029043:=True
def tw12716499628035603226:=True
def tw17299255710248609974:=True
def tw2194837905786427950:=True
def tw11248809105463178107:=True
def tw13662326575238711972:=True
def tw14470573144308075018:=True
def tw7582752382248087051:=True
def tw9707075883935232697:=True
def tw1476215476527038893:=True
def tw106378311578867662:=True
def tw11225096288362718242:=True
def tw10070433734608464950:=True
def tw6869008876280962876:=True
def tw649654617532990920:=True
def tw17861374880165033621:=True
def tw1226468870429017468:=True
def tw13235801750992284110:=True
def tw4618618284104222098:=True
def tw9018740323694475191:=True
def tw14630702975590982346:=True
def tw6442437172460068773:=True
def tw6838308094476632816:=True
def tw534655605639777684:=True
def tw11309593008835364262:=True
def tw1156079449389660754:=True
def tw1903380827071601081:=True
def tw6280169682039635260:=True
def tw2957414397623677682:=True
def tw2287453541714118427:=True
def tw6562005145818559876:=True
def tw3826955960532173718:=True
def tw9069129046684979013:=True
def tw1172081189188819511:=True
def tw6902934412898148927:=True
def tw12293368910290364693:=True
def tw6164268301940540462:=True
def tw16962354445322270189:=True
def tw4033798903650507830:=True
def tw7467738456160560922:=True
def tw8753711513525777191:=True
def tw14006176499447230445:=True
def tw18130326752081277767:=True
def tw9240318302715395462:=True
def tw9215414706547485986:=True
def tw15854835423664778818:=True
def tw1611062996512919639:=True
def tw17891178348407099574:=True
def tw6211373681355688795:=True
def tw5643146919630917516:=True
def tw5917086468787939425:=True
def tw17084725211564668125:=True
def tw4185832821967362063:=True
def tw12651343238628983043:=True
def tw5879311059818505575:=True
def tw14686440260440912913:=True
def tw10931341357729698815:=True
def tw4124021267176236633:=True
def tw13957032494937356228:=True
def tw1071318573285140551:=True
def tw6221432500008690530:=True
def tw18435929304684012017:=True
def tw364187445234134820:=True
def tw470917603282684664:=True
def tw10939863352541311996:=True
def tw15992937371795460223:=True
def tw8094843378470443898:=True
def tw9751960467612310902:=True
def tw2346843568569202499:=True
def tw12626489706629318036:=True
def tw13766552772507464008:=True
def tw130591733621946974:=True
def tw3392183317242122575:=True
def tw5611274325095735977:=True
def tw11005273093751140759:=True
def tw11244719001258381647:=True
def tw3627796535778575199:=True
def tw5768224880817845182:=True
def tw14048890523638061818:=True
def tw5115613891208773759:=True
def tw6182889266945897363:=True
def tw1161869960479166967:=True
def tw6718886346725405025:=True
def tw17489170460470348396:=True
def tw13723247191422866352:=True
def tw10007867445541112111:=True
def tw11002543747584624631:=True
def tw15848817820370385372:=True
def tw4834305970459359178:=True
def tw17503896905202089018:=True
def tw9447128885952096077:=True
def tw4817944128456675397:=True
def tw14546123742074235859:=True
def tw14662935155316257028:=True
def tw2893849171930725942:=True
def tw15653848153785000886:=True
def tw6919154785029052513:=True
def tw13479218251693523499:=True
def tw18180489223419822555:=True
def tw14860148621615668066:=True
def tw4784116110731442987:=True
def tw5327480404035021406:=True
def tw6739291297570963103:=True
def tw7155014995711829062:=True
def tw1597009593158420314:=True
def tw17836436022648882122:=True
def tw1751211120772570864:=True
def tw1359628661521013506:=True
def tw3264748147488829092:=True
def tw7163394288561799532:=True
def tw14443543059755650475:=True
def tw16411181058898081303:=True
def tw11668124841525928137:=True
def tw7626251029809161486:=True
def tw12408968483004811476:=True
def tw3160271107876802224:=True
def tw10299687027987044626:=True
def tw4984406110119156576:=True
def tw10559805513798274557:=True
def tw6267343363038792677:=True
def tw11883046993585718482:=True
def tw14393089016617896225:=True
def tw3660570451034359190:=True
def tw14291200071282915151:=True
def tw17417504469269846240:=True
def tw13319684535241409938:=True
def tw9229444191622173907:=True
def tw14124960951715690725:=True
def tw6867025993390062526:=True
def tw1657137235438743213:=True
def tw220801939369408424:=True
def tw16392458444591266594:=True
def tw16021618421574330074:=True
def tw8802348674021231696:=True
def tw17452694467782795664:=True
def tw8719249158553681099:=True
def tw13267932432530625845:=True
def tw6073206007936842590:=True
def tw10781552111191897946:=True
def tw7396205983113143987:=True
def tw15510171045967726405:=True
def tw11653205237017733534:=True
def tw3922411802100112156:=True
def tw14286155511773233720:=True
def tw4318832892848961109:=True
def tw17931994736477724566:=True
def tw16242462324550367031:=True
def tw11117675536302680880:=True
def tw11343253828819606584:=True
def tw8733136273483659903:=True
def tw18029382615932320412:=True
def tw6867775647200533373:=True
def tw13923934577392236130:=True
def tw18211522438744272440:=True
def tw7130945177814051884:=True
def tw5866606567731056072:=True
def tw18231675413660786153:=True
def tw2386721066344017061:=True
def tw11529979019390731329:=True
def tw15426065692574916291:=True
def tw10401629153695499539:=True
def tw8418971546159669731:=True
def tw4176616333885922654:=True
def tw7018838825032518348:=True
def tw15286187149411159822:=True
def tw33635217487429724:=True
def tw10268590603177867225:=True
def tw10689959546229002270:=True
def tw14926584000061214995:=True
def tw487271774694907103:=True
def tw12670664892882022780:=True
def tw6191936942569263235:=True
def tw8172146546018763805:=True
def tw12757706051787629398:=True
def tw2114182430244437655:=True
def tw17425156668201916794:=True
def tw5290904936028602366:=True
def tw6002731736963991834:=True
def tw16830902999151813095:=True
def tw11759543025688495737:=True
def tw15641225677295430361:=True
def tw2398142587502397571:=True
def tw3119031489160358431:=True
def tw9496015678953027955:=True
def tw13928278841490737692:=True
def tw11236831955333751975:=True
def tw3528636561483021320:=True
def tw9829098485924627623:=True
def tw5853548417214261897:=True
def tw11802830162907227230:=True
def tw3889479481766360877:=True
def tw4832321802410806881:=True
def tw4630230992651454590:=True
def tw6865184348119646846:=True
def tw643364321461117164:=True
def tw17523772832026401190:=True
def tw13460896554808756223:=True
def tw1020938249660614445:=True
def tw10437768736591276077:=True
def tw13977935013613506041:=True
def tw6270468671227242432:=True
def tw5417406229665985200:=True
def tw16351238332341258365:=True
def tw17117644998374148336:=True
def tw13895094486252213863:=True
def tw14736125079128135057:=True
def tw7475001063720030156:=True
def tw15443279630215484120:=True
def tw16896296302028954168:=True
def tw8008859631179527784:=True
def tw15191414051339471177:=True
def tw4385470989734091614:=True
def tw7289393643199905795:=True
def tw10259601040420403309:=True
def tw2738595416173903249:=True
def tw17969929435401360215:=True
def tw13529876135029910134:=True
def tw5053507107737510879:=True
def tw3629810381251727250:=True
def tw8294484298479519429:=True
def tw3366411041170594367:=True
def tw10157902501617280292:=True
def tw10709297736342316487:=True
def tw11117570772094960193:=True
def tw369930496739159310:=True
def tw1501222029855401055:=True
def tw3387951854234439822:=True
def tw5173770339965119230:=True
def tw18293234649332395775:=True
def tw5908662122025507783:=True
def tw12993200791387959381:=True
def tw17500197321232397963:=True
def tw11028508259037470569:=True
def tw16176426967973184868:=True
def tw15776085204331492084:=True
def tw16659742220733310958:=True
def tw8639470821236487337:=True
def tw15959580313654476658:=True
def tw18094603045379782087:=True
def tw16177132212624706661:=True
def tw3575863453322741197:=True
end PySem.W.Fast
open PySem PySem.W PyProof.Rows
set_option maxRecDepth 100000 in
set_option maxHeartbeats 0 in
theorem PySem.Challenge.cw_knockwright_k78_whole_seen_otherwise_holds : PySem.Challenge.rw_knockwright_k78_whole_seen_otherwise.Holds := by
 w_on; o_law; z_head; (case hw=>w_witness2)
 refine Kw.walk_kwX (pn:="script") (l:=PySem.Challenge.rw_knockwright_k78_whole_seen_otherwise) (k:=11) rfl rfl ⟨rfl,by decide,by decide⟩ (λ_=>by kernel_rfl) rfl ?F
 case F=>
  intro w mg h KX G;apply Prf.all_mk KX G
  any_goals first|k_is|(unfold Prf.LkF;k_is)
end
