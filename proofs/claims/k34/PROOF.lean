import PyProof.Rows.All
import Wide.All
import OpenK.AllK
import Wide.FinOn
import Lean
import PyProof.EqAt
import PyProof.EqKinds
import PyProof.TupleCall
import PyProof.NeKinds
import PyProof.IsInstanceH
import PyProof.SumWalkG
import PyProof.ConsumeWalk
import PyProof.IsiNone
import PyProof.WalksMore
import PyProof.PlainList
import PyProof.CompFree
import KE.KIntText
import PySem.Challenge.RW_sluiceway_k34_towns_take_by_rank
set_option Elab.async false
set_option linter.all false
set_option maxRecDepth 100000
set_option maxHeartbeats 0
noncomputable section
namespace L2
open PySem PySem.Spec PyProof.Rows
variable {us:List Value} {u:Value} {a b C:Addr} {P:Program} {w:World} {h base:Heap} {t' i k:Nat} {ch fp:List Addr} {x:Str} {e c tg:Expr} {A:Around} {E Q:Value->Shared->Prop} {s:Shared} {pins:List (Addr×Obj)} {op:CmpOp} {K:PySem.W.Frag} {body:List Stmt} {kw:List (Str×Value)} {mg:Str->Option Value} {kindOf:Str->Option NameKind}
noncomputable abbrev Key:=Sum Int Str
noncomputable def ZHN:Key->Value->Bool
 | .inl k,v=>Value.isInt k v
 | .inr x,v=>Value.isStrOf x v
noncomputable def keyH (w:World):Key->Int
 | .inl k=>hashInt k
 | .inr x=>hashStr w x
theorem Kc:∀{k:Key} {v:Value},ZHN k v=true->(∃i t,k=Sum.inl i/\v=Value.int i t)∨(∃x t,k=Sum.inr x/\v=Value.str x t)
 | .inl i,v,h=>by obtain ⟨t,e⟩:=Value.isInt_shape (k:=i) (v:=v) h;exact .inl ⟨i,t,rfl,e⟩
 | .inr x,v,h=>by obtain ⟨t,e⟩:=Value.isStrOf_shape (x:=x) (v:=v) h;exact .inr ⟨x,t,rfl,e⟩
theorem ZLP (a b:Int):decide ((Sum.inl a:Key)=Sum.inl b)=(a == b):=by
 by_cases e:a=b
 ·subst e;simp
 ·have h:¬(Sum.inl a:Key)=Sum.inl b:=λq=>e (Sum.inl.inj q)
  rw [decide_eq_false h];exact (beq_eq_false_iff_ne.mpr e).symm
theorem ZRm (a b:Str):decide ((Sum.inr a:Key)=Sum.inr b)=decide (a=b):=by
 by_cases e:a=b
 ·subst e;simp
 ·have h:¬(Sum.inr a:Key)=Sum.inr b:=λq=>e (Sum.inr.inj q)
  rw [decide_eq_false h,decide_eq_false e]
theorem ZML (a:Int) (b:Str):decide ((Sum.inl a:Key)=Sum.inr b)=false:=decide_eq_false (λq=>nomatch q)
theorem ZKS (a:Str) (b:Int):decide ((Sum.inr a:Key)=Sum.inl b)=false:=decide_eq_false (λq=>nomatch q)
noncomputable def ZIi (prog:Program) (w:World):PySem.KeyKind prog w Key where
 is:=ZHN
 hash:=keyH w
 inj:=λv a b ha hb=>by
  rcases Kc ha with ⟨i,t,rfl,rfl⟩ | ⟨x,t,rfl,rfl⟩
  ·rcases Kc hb with ⟨j,u,rfl,e⟩ | ⟨y,u,rfl,e⟩
   ·injection e with e1 _;rw [e1]
   ·exact nomatch e
  ·rcases Kc hb with ⟨j,u,rfl,e⟩ | ⟨y,u,rfl,e⟩
   ·exact nomatch e
   ·injection e with e1 _;rw [e1]
 byValue:=λk v h=>by rcases Kc h with ⟨i,t,rfl,rfl⟩ | ⟨x,t,rfl,rfl⟩ <;> rfl
 pyHash:=λhv h=>by
  rcases Kc hv with ⟨i,t,rfl,rfl⟩ | ⟨x,t,rfl,rfl⟩
  ·exact wpAny_pyHash_int h
  ·exact wpAny_pyHash_str h
 eqBool:=λhu hv h=>by
  rcases Kc hu with ⟨i,t,rfl,rfl⟩ | ⟨x,t,rfl,rfl⟩
  ·rcases Kc hv with ⟨j,u,rfl,rfl⟩ | ⟨y,u,rfl,rfl⟩
   ·rw [ZLP] at h;exact wpAny_eqBool_int h
   ·rw [ZML] at h;exact SeqAt.EqAt.int_str i t y u _ _ _ _ h
  ·rcases Kc hv with ⟨j,u,rfl,rfl⟩ | ⟨y,u,rfl,rfl⟩
   ·rw [ZKS] at h;exact SeqAt.EqAt.str_int x t j u _ _ _ _ h
   ·rw [ZRm] at h;exact wpAny_eqBool_str h
 «strs»:=λk x t v h=>by
  rcases Kc h with ⟨i,u,rfl,e⟩ | ⟨y,u,rfl,e⟩
  ·exact nomatch e
  ·injection e with e1 _
   subst e1
   cases v <;> rfl
inductive V where
 | non | bl (b:Bool) | int (i:Int) | str (x:Str) | byt (b:Array UInt8) | flt (b:UInt64) | ref (a:Addr) | ty (n:String)
 deriving DecidableEq
variable {v y:V} {vs:List V}
noncomputable def RelV:V->Value->Prop
 | .non,u=>u=Value.none
 | .bl b,u=>u=Value.bool b
 | .int i,u=>∃t,u=Value.int i t
 | .str x,u=>∃t,u=Value.str x t
 | .byt b,u=>∃t,u=Value.bytes b t
 | .flt b,u=>∃t,u=Value.float b t
 | .ref a,u=>u=Value.ref a
 | .ty n,u=>u=Value.type n
noncomputable abbrev Vals:List V->List Value->Prop:=Paired RelV
theorem Vals.length {xs:List V} (r:Vals xs us):xs.length=us.length:=Paired.length r
theorem Vals.get:∀{xs:List V} {us:List Value} {i:Nat} {x:V},Vals xs us->xs[i]? =some x->∃u,us[i]? =some u/\RelV x u
 | _,_,_,_,.nil,e=>by simp at e
 | _,_,0,_,.cons r _,e=>by simp at e;subst e;exact ⟨_,rfl,r⟩
 | _,_,i + 1,x,.cons _ t,e=>by obtain ⟨u,h1,h2⟩:=Vals.get (i:=i) (x:=x) t (by simpa using e);exact ⟨u,by simpa using h1,h2⟩
theorem Vals.set {x:V} (r:RelV x u):∀{xs:List V} {us:List Value} (i:Nat),Vals xs us->Vals (xs.set i x) (us.set i u)
 | _,_,_,.nil=>.nil
 | _,_,0,.cons _ t=>.cons r t
 | _,_,i + 1,.cons q t=>.cons q (Vals.set r i t)
theorem Vals.append:∀{xs ys:List V} {us ws:List Value},Vals xs us->Vals ys ws->Vals (xs++ys) (us++ws)
 | _,_,_,_,.nil,s=>s
 | _,_,_,_,.cons r t,s=>.cons r (Vals.append t s)
theorem Vals.take:∀{xs:List V} {us:List Value} (n:Nat),Vals xs us->Vals (xs.take n) (us.take n)
 | _,_,0,_=>.nil
 | _,_,_ + 1,.nil=>.nil
 | _,_,n + 1,.cons r t=>.cons r (Vals.take n t)
theorem Vals.drop:∀{xs:List V} {us:List Value} (n:Nat),Vals xs us->Vals (xs.drop n) (us.drop n)
 | _,_,0,r=>r
 | _,_,_ + 1,.nil=>.nil
 | _,_,n + 1,.cons _ t=>Vals.drop n t
noncomputable def RelO:Option V->Option Value->Prop
 | some v,some u=>RelV v u
 | none,none=>True
 | _,_=>False
noncomputable def KV {κ:Type}:List (κ×V)->List (κ×Value)->Prop:=Paired λ(p:κ×V) (q:κ×Value)=>p.1=q.1/\RelV p.2 q.2
noncomputable def kV:Key->V
 | .inl i=>.int i
 | .inr x=>.str x
inductive HO where
 | lst (xs:List V)
 | tup (xs:List V)
 | dK (kvs:List (Key×V)) | dT (kvs:List (List Key×V))
 | set (S:Int->Bool) (n:Nat)
 | ins (C dx:Addr) (fs:List (Str×V))
 | own (x:Addr)
 | xd (fs:List (Str×V))
 | met (f x:Addr)
 | rng (lo hi:Int)
 | frz (o:Obj) (u:HO)
 | tbl (ps:Array Value)
 | ext (φ:Heap->Prop)
variable {o:HO}
noncomputable abbrev Hp:=Addr->Option HO
variable {H:Hp}
noncomputable def upd (H:Hp) (a:Addr) (o:HO):Hp:=λb=>if b=a then some o else H b
theorem Gg:upd H a o a=some o:=by unfold upd;rw [if_pos rfl]
theorem Az (h:b≠a):upd H a o b=H b:=by unfold upd;rw [if_neg h]
theorem Ht (h:H a=some o) (h':H b=none):a≠b:=by intro e;subst e;rw [h] at h';cases h'
section
variable (P:Program) (w:World)
noncomputable def ObjOk (H:Hp) (h:Heap) (a:Addr):HO->Prop
 | .lst xs=>xs.length<=sizeLine/\∃(its:List Value) (n:Nat),Vals xs its/\h.get? a=some {cls:=.type "list",data:=.seq its.toArray n}
 | .tup xs=>xs.length<=sizeLine/\∃its:List Value,Vals xs its/\IsTup h a its.toArray
 | .dK kvs=>kvs.length<=sizeLine/\(a == sysModules)=false/\∃vs,KV kvs vs/\h.DictOf (ZIi P w) a vs
 | .dT kvs=>kvs.length<=sizeLine/\(a == sysModules)=false/\∃xs:List (List Key×Addr×Value),
   Paired (λ(p:List Key×V) (q:List Key×Addr×Value)=>p.1=q.1/\H q.2.1=some (.tup (p.1.map kV))/\RelV p.2 q.2.2) kvs xs/\
   ∃o es ep,h.get? a=some o/\o.ExactDict/\o.data=.dict es ep/\es.toList=xs.map (entryOfKey (tupleKind (ZIi P w)))/\(xs.map (·.1)).Nodup
 | .set S n=>h.SetOf (intKind P w) a S n
 | .ins C dx fs=>H dx=some (.own a)/\fs.length<=1000/\dx≠a/\h.get? a=some (PySem.W.instObj C dx)/\
   ∃mA,h.Ns1 dx mA/\(∀f,RelO (fs.lookup f) (mA f))/\PySem.Within mA (fs.map (·.1))
 | .own _=>∃o,h.get? a=some o
 | .xd fs=>∃mA,h.Ns1 a mA/\∀f,RelO (fs.lookup f) (mA f)
 | .rng lo hi=>∃t u v,h.get? a=some {cls:=.type "range",data:=.fields #[.int lo t,.int hi u,.int 1 v]}
 | .frz o u=>h.get? a=some o/\ObjOk H h a u
 | .tbl ps=>h.get? a=some {cls:=.none,data:=.fields ps}
 | .met f x=>h.get? a=some (PySem.W.methodObj (.ref f) (.ref x))
 | .ext φ=>φ h/\(∃o,h.get? a=some o)/\∀h1 h2:Heap,φ h1->(∀o,h1.get? a=some o->h2.get? a=some o)->φ h2
noncomputable def HOk (H:Hp) (h:Heap):Prop:=∀a o,H a=some o->ObjOk P w H h a o
end
section
variable {P:Program} {w:World} {H H':Hp} {h h':Heap} {a:Addr} {o:HO}
theorem ObjOk.lt (x:ObjOk P w H h a o):a < h.objs.size:=by
 cases o with
 | lst xs=>obtain ⟨_,_,_,_,e⟩:=x;exact Heap.lt_size e
 | tup xs=>obtain ⟨_,_,_,p⟩:=x;exact p.lt
 | dK kvs=>obtain ⟨_,_,_,_,o,_,_,e,_⟩:=x;exact Heap.lt_size e
 | dT kvs=>obtain ⟨_,_,_,_,o,_,_,e,_⟩:=x;exact Heap.lt_size e
 | set S n=>obtain ⟨o,_,_,_,e,_⟩:=x;exact Heap.lt_size e
 | ins C dx fs=>obtain ⟨_,_,_,e,_⟩:=x;exact Heap.lt_size e
 | own y=>obtain ⟨_,e⟩:=x;exact Heap.lt_size e
 | xd fs=>obtain ⟨_,⟨_,_,_,e,_⟩,_⟩:=x;exact Heap.lt_size e
 | rng lo hi=>obtain ⟨_,_,_,e⟩:=x;exact Heap.lt_size e
 | frz ob u=>obtain ⟨e,_⟩:=x;exact Heap.lt_size e
 | tbl ps=>exact Heap.lt_size (show h.get? a=some _ from x)
 | met f y=>exact Heap.lt_size (show h.get? a=some _ from x)
 | ext φ=>obtain ⟨_,⟨_,e⟩,_⟩:=x;exact Heap.lt_size e
theorem Paired.mapP {α β:Type} {F G:α->β->Prop}:∀{l₁:List α} {l₂:List β},Paired F l₁ l₂->(∀a b,F a b->G a b)->Paired G l₁ l₂
 | _,_,.nil,_=>.nil
 | _,_,.cons r t,f=>.cons (f _ _ r) (Paired.mapP t f)
theorem ObjOk.stay (x:ObjOk P w H h a o) (k:∀b u,(b=a∨H b=some (.own a))->h.get? b=some u->h'.get? b=some u)
  (ho:∀b,H b=some (.own a)->H' b=some (.own a)) (ht:∀b xs,H b=some (.tup xs)->H' b=some (.tup xs)):ObjOk P w H' h' a o:=by
 induction o with
 | lst xs=>obtain ⟨z,its,n,r,e⟩:=x;exact ⟨z,its,n,r,k _ _ (.inl rfl) e⟩
 | tup xs=>obtain ⟨z,its,r,ob,e,c⟩:=x;exact ⟨z,its,r,ob,k _ _ (.inl rfl) e,c⟩
 | dK kvs=>obtain ⟨z,y,vs,r,ob,es,ep,e,c⟩:=x;exact ⟨z,y,vs,r,ob,es,ep,k _ _ (.inl rfl) e,c⟩
 | dT kvs=>
  obtain ⟨z,y,xs,r,ob,es,ep,e,c⟩:=x;exact ⟨z,y,xs,Paired.mapP r λp q z=>⟨z.1,ht _ _ z.2.1,z.2.2⟩,ob,es,ep,k _ _ (.inl rfl) e,c⟩
 | set S n=>obtain ⟨ob,es,ep,t,e,c⟩:=x;exact ⟨ob,es,ep,t,k _ _ (.inl rfl) e,c⟩
 | ins C dx fs=>
  obtain ⟨d,z,ne,e,mA,⟨od,es,ep,e2,c⟩,r⟩:=x;exact ⟨ho _ d,z,ne,k _ _ (.inl rfl) e,mA,⟨od,es,ep,k _ _ (.inr d) e2,c⟩,r⟩
 | own y=>obtain ⟨ob,e⟩:=x;exact ⟨ob,k _ _ (.inl rfl) e⟩
 | xd fs=>obtain ⟨mA,⟨od,es,ep,e,c⟩,r⟩:=x;exact ⟨mA,⟨od,es,ep,k _ _ (.inl rfl) e,c⟩,r⟩
 | rng lo hi=>obtain ⟨t,u,v,e⟩:=x;exact ⟨t,u,v,k _ _ (.inl rfl) e⟩
 | frz ob u ih=>obtain ⟨e,q⟩:=x;exact ⟨k _ _ (.inl rfl) e,ih q⟩
 | tbl ps=>
  have e:h.get? a=some {cls:=.none,data:=.fields ps}:=x;show h'.get? a=some {cls:=.none,data:=.fields ps};exact k a _ (.inl rfl) e
 | met f y=>
  have e:h.get? a=some (PySem.W.methodObj (.ref f) (.ref y)):=x;show h'.get? a=some (PySem.W.methodObj (.ref f) (.ref y));exact k a _ (.inl rfl) e
 | ext φ=>obtain ⟨p,⟨o,e⟩,st⟩:=x;exact ⟨st _ _ p λo q=>k _ _ (.inl rfl) q,⟨o,k _ _ (.inl rfl) e⟩,st⟩
theorem HOk.lt (x:HOk P w H h) (e:H a=some o):a < h.objs.size:=(x a o e).lt
theorem HOk.fresh (x:HOk P w H h) (e:h.objs.size<=a):H a=none:=by
 cases q:H a with
 | none=>rfl
 | some u=>exact absurd (Nat.lt_of_lt_of_le (x.lt q) e) (Nat.lt_irrefl _)
theorem HOk.kept (x:HOk P w H h) (k:∀b u,h.get? b=some u->h'.get? b=some u):HOk P w H h':=λa o e=>
 (x a o e).stay (λb u _ q=>k b u q) (λ_ q=>q) λ_ _ q=>q
theorem HOk.laid (x:HOk P w H h) (k:∀b u,h.get? b=some u->h'.get? b=some u) (hp:h.objs.size<=a) (new:ObjOk P w (upd H a o) h' a o):HOk P w (upd H a o) h':=λb u e=>by
 have hn:=x.fresh hp;by_cases hb:b=a
 ·subst hb;rw [Gg] at e;cases e;exact new
 ·rw [Az hb] at e;exact (x b u e).stay (λc v _ q=>k c v q) (λc q=>by rw [Az (Ht q hn)];exact q) λc xs q=>by rw [Az (Ht q hn)];exact q
end
noncomputable def Rd (H:Hp) (a:Addr) (u:HO):Prop:=H a=some u∨∃o,H a=some (.frz o u)
theorem Rd.ok {u:HO} (r:Rd H a u) (x:HOk P w H h):ObjOk P w H h a u:=by
 rcases r with r | ⟨o,r⟩
 ·exact x a u r
 ·obtain ⟨_,q⟩:=x a _ r;exact q
noncomputable def Mut:Option HO->Prop
 | some (.lst _)=>True
 | some (.dK _)=>True
 | some (.dT _)=>True
 | some (.set _ _)=>True
 | some (.ins _ _ _)=>True
 | some (.ext _)=>True
 | _=>False
section
variable {P:Program} {w:World} {H:Hp} {h h':Heap} {x e:Addr} {o':HO}
theorem HOk.write (ok:HOk P w H h) (mu:Mut (H x)) (he:e=x∨H e=some (.own x)) (k:∀b u,b≠e->h.get? b=some u->h'.get? b=some u) (heo:∃u,h'.get? e=some u)
  (new:ObjOk P w (upd H x o') h' x o'):HOk P w (upd H x o') h':=λb u q=>by
 have nown:∀c y,H c=some (.own y)->c≠x:=λc y r z=>by subst z;rw [r] at mu;exact mu
 have ntup:∀c xs,H c=some (.tup xs)->c≠x:=λc xs r z=>by subst z;rw [r] at mu;exact mu
 by_cases hb:b=x
 ·subst hb;rw [Gg] at q;cases q;exact new
 ·rw [Az hb] at q;by_cases hbe:b=e
  ·have q':H b=some (.own x):=by
    rcases he with z | z
    ·exact absurd (hbe.trans z) hb
    ·rw [hbe];exact z
   rw [q] at q';cases q';obtain ⟨v,hv⟩:=heo;exact ⟨v,by rw [hbe];exact hv⟩
  ·refine (ok b u q).stay (λc v hc r=>k c v ?_ r) (λc r=>by rw [Az (nown c b r)];exact r) λc xs r=>by rw [Az (ntup c xs r)];exact r
   rcases hc with rfl | hc
   ·exact hbe
   ·rintro rfl;rcases he with z | z
    ·exact nown c b hc z
    ·rw [hc] at z;cases z;exact hb rfl
end
structure Un (fs ex:List Addr) (H H':Hp) (h h':Heap):Prop where
 keep:∀b o,h.get? b=some o->H b=none->b ∉ fs->b ∉ ex->h'.get? b=some o
 slot:∀b o,h.get? b=some o->H b=none->b∈fs->b ∉ ex->∃sl,h'.get? b=some {o with slots:=sl}
 free:∀b o,h.get? b=some o->H b=none->b ∉ ex->H' b=none
 there:∀b o,h.get? b=some o->b ∉ ex->∃o',h'.get? b=some o'
 tups:∀b xs,H b=some (.tup xs)->H' b=some (.tup xs)
 frzs:∀b o u,H b=some (.frz o u)->H' b=some (.frz o u)
 tbls:∀b ps,H b=some (.tbl ps)->∃more,H' b=some (.tbl (ps++more))
section
variable {fs fs' ex ex':List Addr} {H H1 H2:Hp} {h h1 h2 h':Heap} {a x e:Addr} {o:HO}
theorem Un.any (u:Un fs ex H H1 h h1) {ob:Obj} (q:h.get? b=some ob) (n:H b=none) (hx:b ∉ ex):∃sl,h1.get? b=some {ob with slots:=sl}:=by
 by_cases hb:b∈fs
 ·exact u.slot b ob q n hb hx
 ·exact ⟨ob.slots,u.keep b ob q n hb hx⟩
theorem Un.kept (k:∀b u,h.get? b=some u->h'.get? b=some u):Un fs ex H H h h':=
 ⟨λb ob q _ _ _=>k b ob q,λb ob q _ _ _=>⟨ob.slots,k b ob q⟩,λ_ _ _ n _=>n,λb ob q _=>⟨ob,k b ob q⟩,λ_ _ q=>q,λ_ _ _ q=>q,λ_ ps q=>⟨#[],by rw [q];simp⟩⟩
theorem Un.refl:Un fs ex H H h h:=Un.kept λ_ _ q=>q
theorem Un.laid (k:∀b u,h.get? b=some u->h'.get? b=some u) (hp:h.objs.size<=a) (hn:H a=none):Un fs ex H (upd H a o) h h' where
 keep:=λb u q _ _ _=>k b u q
 slot:=λb u q _ _ _=>⟨u.slots,k b u q⟩
 free:=λb u q n _=>by rw [Az (Nat.ne_of_lt (Nat.lt_of_lt_of_le (Heap.lt_size q) hp))];exact n
 there:=λb u q _=>⟨u,k b u q⟩
 tups:=λb xs q=>by rw [Az (Ht q hn)];exact q
 frzs:=λb u xs q=>by rw [Az (Ht q hn)];exact q
 tbls:=λb ps q=>⟨#[],by rw [Az (Ht q hn),q];simp⟩
theorem Un.write (mu:Mut (H x)) (he:e=x∨H e=some (.own x)) (k:∀b u,b≠e->h.get? b=some u->h'.get? b=some u) (heo:∃u,h'.get? e=some u):Un fs ex H (upd H x o) h h':=by
 have hx:∀b,H b=none->b≠x:=λb n z=>by subst z;rw [n] at mu;exact mu
 have hb:∀b,H b=none->b≠e:=λb n z=>by
  subst z;rcases he with r | r
  ·exact hx b n r
  ·rw [n] at r;cases r
 have hm:∀b u,H b=some u->¬Mut (some u)->b≠x:=λb u q nm z=>by subst z;rw [q] at mu;exact nm mu
 refine ⟨λb u q n _ _=>k b u (hb b n) q,λb u q n _ _=>⟨u.slots,k b u (hb b n) q⟩,λb u q n _=>by rw [Az (hx b n)];exact n,λb u q _=> ?_,
  λb xs q=>by rw [Az (hm b _ q λz=>z)];exact q,λb u xs q=>by rw [Az (hm b _ q λz=>z)];exact q,λb ps q=>⟨#[],by rw [Az (hm b _ q λz=>z),q];simp⟩⟩
 by_cases hbe:b=e
 ·subst hbe;exact heo
 ·exact ⟨u,k b u hbe q⟩
end
noncomputable def trk (h:Heap) (H:Hp):List Addr:=(List.range h.objs.size).filter λa=>(H a).isSome
noncomputable def K7 (h:Heap) (H:Hp):Heap:=PySem.W.hideAll h (trk h H)
theorem ZSc (h:Heap) (H:Hp):(K7 h H).objs.size=h.objs.size:=PySem.W.hideAll_size _ _
theorem ZRX {o:Obj} (e:h.get? b=some o) (n:H b=none):(K7 h H).get? b=some o:=
 PySem.W.hideAll_get _ e λhm=>by have q:(H b).isSome=true:=(List.mem_filter.mp hm).2;rw [n] at q;simp at q
theorem ZMo {o:Obj} (e:(K7 h H).get? b=some o):h.get? b=some o/\H b=none:=by
 have e':h.get? b=some o:=PySem.W.of_hideAll (trk h H) e;refine ⟨e',?_⟩;cases q:H b with
 | none=>rfl
 | some x=>
  have hm:b∈trk h H:=List.mem_filter.mpr ⟨List.mem_range.mpr (Heap.lt_size e'),by simp [q]⟩;have z:(K7 h H).get? b=none:=PySem.W.hideAll_none (trk h H) hm;rw [z] at e;cases e
noncomputable def ZRz (g h:Heap) (L:Addr):List (Addr×Obj):=(List.range h.objs.size).filterMap λa=>if a=L∨(g.get? a).isSome=true then none else (h.get? a).map λo=>(a,o)
noncomputable def rest (g h:Heap) (L d:Addr):List (Addr×Obj):=(ZRz g h L).filter λp=>decide (p.1≠d)
structure Mod (K:PySem.W.Frag) (mg:Str->Option Value) (base:Heap):Prop where
 kin:K.In base
 glob:base.Ns mainGlobals mg
 blt:∃mb,base.Ns builtinsNs mb/\∀x:Str,x≠"__name__"->mb x=bootBuiltins x
 nolimit:base.NoLimit
structure Cx where
 prog:Program
 w:World
 K:PySem.W.Frag
 mg:Str->Option Value
 base:Heap
 A:Around
 N:List Str
 s₀:Shared
 H₀:Hp
 env:Env
 outer:List Env
 stack:List Env
 ex:List Addr
 fn:Str->Bool
 calm:Bool
 pn:List (Addr×Obj)
 xe:Value->Shared->Prop
variable {X:Cx}
noncomputable def frs (l:List Env):List Addr:=l.filterMap (·.frame)
noncomputable abbrev Cx.fs (X:Cx):List Addr:=frs X.outer
noncomputable def Vis (sc:Scope) (x:Str):Prop:=sc.names.lookup x=some .local∨sc.names.lookup x=some .cell∨sc.names.lookup x=some .free
noncomputable def Loc (sc:Scope) (x:Str):Prop:=sc.names.lookup x=some .local∨sc.names.lookup x=some .cell
noncomputable def Look (env:Env) (h:Heap) (m:Str->Option Value) (x:Str) (u:Value):Prop:=
 (env.kindOf x=some .local/\m x=some u)∨((env.kindOf x=some .cell∨env.kindOf x=some .free)/\∃c,env.cells.lookup x=some c/\h.IsCell c (some u))
structure Cx.Ok (X:Cx):Prop where
 mod:Mod X.K X.mg X.base
 kind:X.env.scope.kind=.function
 glob:X.env.globals=mainGlobals
 blt:X.env.builtins=builtinsNs
 above:X.s₀.heap.objs.size<=X.env.locals
 inj:∀x y c,X.env.cells.lookup x=some c->X.env.cells.lookup y=some c->x=y
 has:∀x,(X.env.kindOf x=some .cell∨X.env.kindOf x=some .free)->∃c,X.env.cells.lookup x=some c
 cab:∀x c,X.fn x=true->X.env.cells.lookup x=some c->X.s₀.heap.objs.size<=c
 hd:X.calm=true->X.A.handled=none
 frames:X.A.frames=some X.stack
 stk:X.stack=X.outer∨(X.stack=X.env::X.outer/\X.env.frame=some X.env.locals)
 exf:∀b∈X.ex,b≠X.env.locals/\∀x c,X.env.cells.lookup x=some c->c≠b
 bs:∀b o,X.base.get? b=some o->X.s₀.heap.get? b=some o/\X.H₀ b=none
 bsz:X.base.objs.size<=X.s₀.heap.objs.size
 noex:∀b o,X.base.get? b=some o->b ∉ X.ex
 exfs:∀b∈X.ex,b ∉ X.fs
 funs:X.s₀.heap.FunFrames X.base X.outer
 frf:∀b∈X.fs,X.H₀ b=none
structure Inv (X:Cx) (pins:List (Addr×Obj)) (σ:List (Option V)) (H:Hp) (s:Shared):Prop where
 ok:X.Ok
 os:s.os=X.s₀.os
 bare:AllBare s.gens
 base:Un X.fs X.ex X.H₀ H X.s₀.heap s.heap
 loc:∃m,s.heap.Ns X.env.locals m/\∀(i:Nat) (x:Str) (v:V),X.N[i]? =some x->σ[i]? =some (some v)->Vis X.env.scope x->∃u,RelV v u/\Look X.env s.heap m x u
 cell:∀x c,X.env.cells.lookup x=some c->∃v,s.heap.IsCell c v
 free:H X.env.locals=none
 Ir:∀x c,X.env.cells.lookup x=some c->H c=none
 pin:∀p∈X.pn++pins,s.heap.get? p.1=some p.2/\H p.1=none/\p.1≠X.env.locals/\p.1 ∉ X.fs/\∀v,p.2.data≠ .cell v
 hok:HOk X.prog X.w H s.heap
 len:σ.length=X.N.length
section
variable {X:Cx} {pins:List (Addr×Obj)} {σ:List (Option V)} {H H':Hp} {s:Shared} {h':Heap}
theorem Cx.Ok.nofr (ok:X.Ok) {o:Obj} (e:X.base.get? b=some o):b ∉ X.fs:=λhb=>by have:=(ok.funs.mem hb).1;rw [e] at this;cases this
theorem Inv.bs (I:Inv X pins σ H s):∀b o,X.base.get? b=some o->s.heap.get? b=some o/\H b=none:=λb o e=>
 ⟨I.base.keep b o (I.ok.bs b o e).1 (I.ok.bs b o e).2 (I.ok.nofr e) (I.ok.noex b o e),I.base.free b o (I.ok.bs b o e).1 (I.ok.bs b o e).2 (I.ok.noex b o e)⟩
theorem Inv.bk (I:Inv X pins σ H s):∀b o,X.base.get? b=some o->s.heap.get? b=some o:=λb o e=>(I.bs b o e).1
theorem Inv.mod (I:Inv X pins σ H s):Mod X.K X.mg X.base:=I.ok.mod
theorem Inv.kIn (I:Inv X pins σ H s):X.K.In s.heap:=I.ok.mod.kin.keeps I.bk
theorem Inv.lt (I:Inv X pins σ H s):X.env.locals < s.heap.objs.size:=let ⟨_,hn,_⟩:=I.loc;hn.lt
theorem Inv.sz (I:Inv X pins σ H s):X.s₀.heap.objs.size<=s.heap.objs.size:=Nat.le_trans I.ok.above (Nat.le_of_lt I.lt)
theorem Inv.nofs (I:Inv X pins σ H s) (h:s.heap.objs.size<=a):a ∉ X.fs:=λhb=>by obtain ⟨_,o,ho,_⟩:=I.ok.funs.mem hb;exact absurd (Nat.lt_of_lt_of_le (Heap.lt_size ho) (Nat.le_trans I.sz h)) (Nat.lt_irrefl _)
theorem Inv.cne (I:Inv X pins σ H s):∀x c,X.env.cells.lookup x=some c->c≠X.env.locals:=λx c e z=>by obtain ⟨v,o,ho,hd⟩:=I.cell x c e;obtain ⟨m,⟨o',es,ep,ho',hd',_⟩,_⟩:=I.loc;rw [z,ho'] at ho;cases ho;rw [hd'] at hd;cases hd
theorem Inv.funs (I:Inv X pins σ H s):s.heap.FunFrames X.base X.outer:=by
 have all:∀(l:List Env),(∀b∈frs l,b∈X.fs)->X.s₀.heap.FunFrames X.base l->s.heap.FunFrames X.base l:=by
  intro l
  induction l with
  | nil=>intro _ _;trivial
  | cons env r ih=>
   intro hs hl;obtain ⟨hk,⟨L,o,hf,hn,ho,hd⟩,hr⟩:=hl;have hL:L∈X.fs:=hs L (by unfold frs;rw [List.filterMap_cons,hf];exact List.mem_cons_self);obtain ⟨sl,e⟩:=I.base.slot L o ho (I.ok.frf L hL) hL λz=>I.ok.exfs L z hL
   exact ⟨hk,⟨L,_,hf,hn,e,hd⟩,ih (λb hb=>hs b (by unfold frs;rw [List.filterMap_cons,hf];exact List.mem_cons_of_mem _ hb)) hr⟩
 exact all X.outer (λ_ hb=>hb) I.ok.funs
theorem Inv.stack (I:Inv X pins σ H s):s.heap.FunFrames X.base X.stack:=by
 rcases I.ok.stk with e | ⟨e,hf⟩
 ·rw [e];exact I.funs
 ·rw [e];obtain ⟨m,hn,_⟩:=I.loc;refine .cons (by rw [I.ok.kind];decide) hf hn ?_ I.funs;exact Heap.get?_none_of_le (Nat.le_trans I.ok.bsz I.ok.above)
theorem Inv.Wb (I:Inv X pins σ H s):∀b∈frs X.stack,b∈X.env.locals::X.fs:=λb hb=>by
 rcases I.ok.stk with e | ⟨e,hf⟩
 ·rw [e] at hb;exact List.mem_cons_of_mem _ hb
 ·rw [e] at hb;unfold frs at hb;rw [List.filterMap_cons,hf] at hb;exact hb
theorem Inv.ZG8 (I:Inv X pins σ H s):∀b∈frs X.stack,H b=none:=λb hb=>by
 rcases List.mem_cons.mp (I.Wb b hb) with e | hb
 ·rw [e];exact I.free
 ·obtain ⟨_,o,ho,_⟩:=I.ok.funs.mem hb;exact I.base.free b o ho (I.ok.frf b hb) λz=>I.ok.exfs b z hb
theorem Inv.step {g':Array GenState} {d':Drawn} (I:Inv X pins σ H s)
  (hch:∀b∈ch,(b∈X.ex∨X.s₀.heap.objs.size<=b)/\b≠X.env.locals/\(∀x c,X.env.cells.lookup x=some c->c≠b)/\∀p∈X.pn++pins,p.1≠b)
  (keep:∀b o,b≠X.env.locals->b ∉ X.fs->b ∉ ch->s.heap.get? b=some o->H b=none->h'.get? b=some o)
  (slot:∀b o,b≠X.env.locals->b∈X.fs->b ∉ ch->s.heap.get? b=some o->H b=none->∃sl,h'.get? b=some {o with slots:=sl}) (free:∀b o,b ∉ ch->s.heap.get? b=some o->H b=none->H' b=none)
  (there:∀b o,b ∉ ch->s.heap.get? b=some o->∃o',h'.get? b=some o')
  (tups:∀b xs,H b=some (.tup xs)->H' b=some (.tup xs)) (frzs:∀b o u,H b=some (.frz o u)->H' b=some (.frz o u)) (tbls:∀b ps,H b=some (.tbl ps)->∃more,H' b=some (.tbl (ps++more)))
  (ns:∀m,s.heap.Ns X.env.locals m->h'.Ns X.env.locals m) (hok:HOk X.prog X.w H' h') (hg:AllBare g'):
  Inv X pins σ H' {s with heap:=h',gens:=g',drawn:=d',toks:=t'}:=by
 have neL:∀b o,X.s₀.heap.get? b=some o->b≠X.env.locals:=λb o e=>Nat.ne_of_lt (Nat.lt_of_lt_of_le (Heap.lt_size e) I.ok.above)
 have neC:∀b o,X.s₀.heap.get? b=some o->b ∉ X.ex->b ∉ ch:=λb o e hx hb=>by
  rcases (hch b hb).1 with z | z
  ·exact hx z
  ·exact absurd (Nat.lt_of_lt_of_le (Heap.lt_size e) z) (Nat.lt_irrefl _)
 have cellK:∀x c,X.env.cells.lookup x=some c->∀v,s.heap.IsCell c v->h'.IsCell c v:=λx c e v ⟨o,ho,hd⟩=>by
  have nch:c ∉ ch:=λz=>(hch c z).2.2.1 x c e rfl
  by_cases hc:c∈X.fs
  ·obtain ⟨sl,q⟩:=slot c o (I.cne x c e) hc nch ho (I.Ir x c e);exact ⟨_,q,hd⟩
  ·exact ⟨o,keep c o (I.cne x c e) hc nch ho (I.Ir x c e),hd⟩
 refine ⟨I.ok,I.os,hg,⟨λb o e n hb hx=> ?_,λb o e n hb hx=> ?_,λb o e n hx=> ?_,λb o e hx=> ?_,λb xs e=>tups b xs (I.base.tups b xs e),λb o xs e=>frzs b o xs (I.base.frzs b o xs e),λb ps e=> ?_⟩,?_,λx c e=> ?_,?_,λx c e=> ?_,λp hp=> ?_,hok,I.len⟩
 ·exact keep b o (neL b o e) hb (neC b o e hx) (I.base.keep b o e n hb hx) (I.base.free b o e n hx)
 ·obtain ⟨sl,e1⟩:=I.base.slot b o e n hb hx;obtain ⟨sl',e2⟩:=slot b _ (neL b o e) hb (neC b o e hx) e1 (I.base.free b o e n hx);exact ⟨sl',e2⟩
 ·obtain ⟨o',e1⟩:=I.base.there b o e hx;exact free b o' (neC b o e hx) e1 (I.base.free b o e n hx)
 ·obtain ⟨o',e1⟩:=I.base.there b o e hx;exact there b o' (neC b o e hx) e1
 ·obtain ⟨m1,e1⟩:=I.base.tbls b ps e;obtain ⟨m2,e2⟩:=tbls b _ e1;exact ⟨m1++m2,by rw [e2,Array.append_assoc]⟩
 ·obtain ⟨m,hn,hl⟩:=I.loc;refine ⟨m,ns m hn,λi x v e1 e2 e3=> ?_⟩;obtain ⟨u,r,l⟩:=hl i x v e1 e2 e3;refine ⟨u,r,?_⟩;rcases l with l | ⟨k,c,e,z⟩
  ·exact .inl l
  ·exact .inr ⟨k,c,e,cellK x c e _ z⟩
 ·obtain ⟨v,z⟩:=I.cell x c e;exact ⟨v,cellK x c e v z⟩
 ·obtain ⟨m,⟨o,_,_,ho,_⟩,_⟩:=I.loc;exact free _ o (λz=>(hch _ z).2.1 rfl) ho I.free
 ·obtain ⟨v,o,ho,hd⟩:=I.cell x c e;exact free c o (λz=>(hch c z).2.2.1 x c e rfl) ho (I.Ir x c e)
 ·obtain ⟨e,n,ne,nf,d⟩:=I.pin p hp;have nch:p.1 ∉ ch:=λz=>(hch p.1 z).2.2.2 p hp rfl
  exact ⟨keep p.1 p.2 ne nf nch e n,free p.1 p.2 nch e n,ne,nf,d⟩
theorem Inv.un (I:Inv X pins σ H s) (u:Un X.fs [] H H' s.heap h') (hok:HOk X.prog X.w H' h'):Inv X pins σ H' {s with heap:=h',toks:=t'}:=by
 obtain ⟨m,⟨o,es,ep,ho,r⟩,_⟩:=id I.loc;obtain ⟨sl,hL⟩:=u.any ho I.free (by simp)
 exact I.step (g':=s.gens) (d':=s.drawn) (ch:= []) (λ_ z=>nomatch z) (λb o _ hb _ e n=>u.keep b o e n hb (by simp)) (λb o _ hb _ e n=>u.slot b o e n hb (by simp)) (λb o _ e n=>u.free b o e n (by simp)) (λb o _ e=>u.there b o e (by simp)) u.tups u.frzs u.tbls (λm' hm=>by obtain ⟨o',es',ep',ho',r'⟩:=hm;rw [ho] at ho';cases ho';exact ⟨_,es',ep',hL,r'⟩) hok I.bare
theorem Inv.call {g':Array GenState} {d':Drawn} (I:Inv X pins σ H s) (u:Un (frs X.stack) ch H H' s.heap h') (hok:HOk X.prog X.w H' h') (hg:AllBare g')
  (hch:∀b∈ch,(b∈X.ex∨X.s₀.heap.objs.size<=b)/\b≠X.env.locals/\(∀x c,X.env.cells.lookup x=some c->c≠b)/\∀p∈X.pn++pins,p.1≠b):
  Inv X pins σ H' {s with heap:=h',gens:=g',drawn:=d',toks:=t'}:=by
 obtain ⟨m,⟨o,es,ep,ho,r⟩,_⟩:=id I.loc;obtain ⟨sl,hL⟩:=u.any ho I.free λz=>(hch _ z).2.1 rfl
 exact I.step (ch:=ch) hch (λb o hL hb hc e n=>u.keep b o e n (λz=>(List.mem_cons.mp (I.Wb b z)).elim hL hb) hc) (λb o _ _ hc e n=>u.any e n hc) (λb o hc e n=>u.free b o e n hc) (λb o hc e=>u.there b o e hc) u.tups u.frzs u.tbls (λm' hm=>by obtain ⟨o',es',ep',ho',r'⟩:=hm;rw [ho] at ho';cases ho';exact ⟨_,es',ep',hL,r'⟩) hok hg
theorem Inv.turned {it:Addr} (I:Inv X pins σ H s) (k:∀b o,b≠it->s.heap.get? b=some o->h'.get? b=some o) (hn:H it=none) (hL:it≠X.env.locals)
  (h1:it∈X.ex∨X.s₀.heap.objs.size<=it) (h2:∀x c,X.env.cells.lookup x=some c->c≠it) (h3:∀p∈X.pn++pins,p.1≠it):Inv X pins σ H {s with heap:=h',toks:=t'}:=by
 have nit:∀b u,H b=some u->b≠it:=λb u e z=>by rw [z,hn] at e;cases e
 refine I.step (g':=s.gens) (d':=s.drawn) (ch:= [it]) (λb hb=> ?_) (λb o _ _ hc e _=>k b o (λz=>hc (by simp [z])) e) (λb o _ _ hc e _=>⟨o.slots,k b o (λz=>hc (by simp [z])) e⟩) (λ_ _ _ _ n=>n)
  (λb o hc e=>⟨o,k b o (λz=>hc (by simp [z])) e⟩) (λ_ _ e=>e) (λ_ _ _ e=>e) (λb ps e=>⟨#[],by rw [e];simp⟩) (λm hm=> ?_) (λb u e=> ?_) I.bare
 ·have e:b=it:=by simpa using hb
  subst e;exact ⟨h1,hL,h2,h3⟩
 ·obtain ⟨o,es,ep,ho,r⟩:=hm;exact ⟨o,es,ep,k _ o (Ne.symm hL) ho,r⟩
 ·refine (I.hok b u e).stay (λc v hc q=>k c v ?_ q) (λ_ q=>q) λ_ _ q=>q
  rcases hc with z | z
  ·rw [z];exact nit b u e
  ·exact nit c _ z
theorem Inv.tok (I:Inv X pins σ H s) (t:Nat):Inv X pins σ H {s with toks:=t}:=I.un (h':=s.heap) (t':=t) Un.refl I.hok
theorem Inv.kept (I:Inv X pins σ H s) (k:∀b u,s.heap.get? b=some u->h'.get? b=some u):Inv X pins σ H {s with heap:=h',toks:=t'}:=I.un (Un.kept k) (I.hok.kept k)
theorem Inv.laid (I:Inv X pins σ H s) (k:∀b u,s.heap.get? b=some u->h'.get? b=some u) (hp:s.heap.objs.size<=a) (new:ObjOk X.prog X.w (upd H a o) h' a o):
  Inv X pins σ (upd H a o) {s with heap:=h',toks:=t'}:=I.un (Un.laid k hp (I.hok.fresh hp)) (I.hok.laid k hp new)
theorem Inv.write {x e:Addr} (I:Inv X pins σ H s) (mu:Mut (H x)) (he:e=x∨H e=some (.own x)) (k:∀b u,b≠e->s.heap.get? b=some u->h'.get? b=some u) (heo:∃u,h'.get? e=some u)
  (new:ObjOk X.prog X.w (upd H x o) h' x o):Inv X pins σ (upd H x o) {s with heap:=h',toks:=t'}:=I.un (Un.write mu he k heo) (I.hok.write mu he k heo new)
theorem Inv.M4 {pins':List (Addr×Obj)} (I:Inv X pins σ H s) (h:∀p∈pins',s.heap.get? p.1=some p.2/\H p.1=none/\p.1≠X.env.locals/\p.1 ∉ X.fs/\∀v,p.2.data≠ .cell v):Inv X pins' σ H s:=
 ⟨I.ok,I.os,I.bare,I.base,I.loc,I.cell,I.free,I.Ir,λp hp=>(List.mem_append.mp hp).elim (λz=>I.pin p (List.mem_append_left _ z)) (h p),I.hok,I.len⟩
theorem ZF7 {N:List Str} (hN:N.Nodup) {j:Nat} (a:N[i]? =some x) (b:N[j]? =some x):i=j:=by obtain ⟨h1,e1⟩:=List.getElem?_eq_some_iff.mp a;obtain ⟨h2,e2⟩:=List.getElem?_eq_some_iff.mp b;exact (List.getElem_inj hN).mp (e1.trans e2.symm)
theorem ZFy {M:Model} {A:Around} {E:Value->Shared->Prop} {Q:Unit->Shared->Prop} (I:Inv X pins σ H s) (hN:X.N.Nodup) (hi:X.N[i]? =some x) (hx:Loc X.env.scope x) (r:RelV v u)
  (h:∀s',Inv X pins (σ.set i (some v)) H s'->(∃a,Heap.SameBut a s.heap s'.heap/\(a=X.env.locals∨X.env.cells.lookup x=some a))->Q () s') (hf:X.fn x=true∨X.env.scope.names.lookup x=some .local:=by first | exact .inl rfl | exact .inr rfl | assumption):wpAny M A (storeName X.env x u) Q E s:=by
 obtain ⟨m,hn,hl⟩:=id I.loc;have hcls:(X.env.scope.kind == .class || (X.env.scope.kind == .module && X.env.locals != X.env.globals))=false:=by rw [I.ok.kind];rfl
 have hiσ:i < σ.length:=by rw [I.len];exact (List.getElem?_eq_some_iff.mp hi).1
 have cne:=I.cne;have tracked:∀{a:Addr} {h':Heap},(∃o,s.heap.get? a=some o/\H a=none)->Heap.SameBut a s.heap h'->HOk X.prog X.w H h':=λ{a h'} ha hs b ob e=>by
  obtain ⟨_,_,hfree⟩:=ha;refine (I.hok b ob e).stay (λc w' hc q=>(hs.2 c ?_).trans q) (λ_ q=>q) λ_ _ q=>q
  rintro rfl;rcases hc with rfl | hc
  ·rw [hfree] at e;cases e
  ·rw [hfree] at hc;cases hc
 rcases hx with hk | hk
 ·refine wpAny_storeName_local hk hn (λh' hn' hs=> ?_) hcls;obtain ⟨oL,_,_,hoL,_⟩:=id hn;refine h _ ⟨I.ok,I.os,I.bare,⟨λb o e n hb hx=> ?_,λb o e n hb hx=> ?_,I.base.free,λb o e hx=> ?_,I.base.tups,I.base.frzs,I.base.tbls⟩,⟨_,hn',λj y v' e1 e2 e3=> ?_⟩,λy c e=> ?_,I.free,I.Ir,λp hp=> ?_,tracked ⟨oL,hoL,I.free⟩ hs,by simpa using I.len⟩ ⟨_,hs,.inl rfl⟩
  ·exact (hs.2 b (Nat.ne_of_lt (Nat.lt_of_lt_of_le (Heap.lt_size e) I.ok.above))).trans (I.base.keep b o e n hb hx)
  ·obtain ⟨sl,e1⟩:=I.base.slot b o e n hb hx;exact ⟨sl,(hs.2 b (Nat.ne_of_lt (Nat.lt_of_lt_of_le (Heap.lt_size e) I.ok.above))).trans e1⟩
  ·obtain ⟨o',e1⟩:=I.base.there b o e hx;exact ⟨o',(hs.2 b (Nat.ne_of_lt (Nat.lt_of_lt_of_le (Heap.lt_size e) I.ok.above))).trans e1⟩
  ·by_cases hj:j=i
   ·subst hj;rw [hi] at e1;cases e1;rw [List.getElem?_set_self hiσ] at e2;cases e2;exact ⟨u,r,.inl ⟨hk,by simp⟩⟩
   ·rw [List.getElem?_set_ne (Ne.symm hj)] at e2;obtain ⟨u',r',q⟩:=hl j y v' e1 e2 e3;refine ⟨u',r',?_⟩;rcases q with ⟨k,e⟩ | ⟨k,c,e,z⟩
    ·refine .inl ⟨k,?_⟩;have:y≠x:=λe=>hj (ZF7 hN e1 (e ▸ hi))
     simp [this,e]
    ·exact .inr ⟨k,c,e,z.sameBut hs (cne y c e)⟩
  ·obtain ⟨w',z⟩:=I.cell y c e;exact ⟨w',z.sameBut hs (cne y c e)⟩
  ·obtain ⟨e,n,ne,nf,d⟩:=I.pin p hp;exact ⟨(hs.2 p.1 ne).trans e,n,ne,nf,d⟩
 ·have hfn:X.fn x=true:=by
   rcases hf with z | z
   ·exact z
   ·rw [z] at hk;cases hk
  obtain ⟨c,hc⟩:=I.ok.has x (.inl hk);obtain ⟨w',z⟩:=I.cell x c hc;refine wpAny_storeName_cell I.ok.kind hk hc z (λh' hc' hs=> ?_);obtain ⟨oc,hoc,hocd⟩:=id z;refine h {s with heap:=h'} ⟨I.ok,I.os,I.bare,⟨λb o e n hb hx=> ?_,λb o e n hb hx=> ?_,I.base.free,λb o e hx=> ?_,I.base.tups,I.base.frzs,I.base.tbls⟩,⟨m,hn.sameBut hs (Ne.symm (cne x c hc)),λj y v' e1 e2 e3=> ?_⟩,λy c' e=> ?_,I.free,I.Ir,λp hp=> ?_,tracked ⟨oc,hoc,I.Ir x c hc⟩ hs,by simpa using I.len⟩ ⟨c,hs,.inr hc⟩
  ·exact (hs.2 b (Nat.ne_of_lt (Nat.lt_of_lt_of_le (Heap.lt_size e) (I.ok.cab x c hfn hc)))).trans (I.base.keep b o e n hb hx)
  ·obtain ⟨sl,e1⟩:=I.base.slot b o e n hb hx;exact ⟨sl,(hs.2 b (Nat.ne_of_lt (Nat.lt_of_lt_of_le (Heap.lt_size e) (I.ok.cab x c hfn hc)))).trans e1⟩
  ·obtain ⟨o',e1⟩:=I.base.there b o e hx;exact ⟨o',(hs.2 b (Nat.ne_of_lt (Nat.lt_of_lt_of_le (Heap.lt_size e) (I.ok.cab x c hfn hc)))).trans e1⟩
  ·by_cases hj:j=i
   ·subst hj;rw [hi] at e1;cases e1;rw [List.getElem?_set_self hiσ] at e2;cases e2;exact ⟨u,r,.inr ⟨.inl hk,c,hc,hc'⟩⟩
   ·rw [List.getElem?_set_ne (Ne.symm hj)] at e2;obtain ⟨u',r',q⟩:=hl j y v' e1 e2 e3;refine ⟨u',r',?_⟩;rcases q with q | ⟨k,c',e,z'⟩
    ·exact .inl q
    ·refine .inr ⟨k,c',e,z'.sameBut hs ?_⟩;rintro rfl;exact hj (ZF7 hN e1 (I.ok.inj _ _ _ e hc ▸ hi))
  ·by_cases hcc:c'=c
   ·subst hcc;exact ⟨_,hc'⟩
   ·obtain ⟨w2,z2⟩:=I.cell y c' e;exact ⟨w2,z2.sameBut hs hcc⟩
  ·obtain ⟨e,n,ne,nf,d⟩:=I.pin p hp;refine ⟨(hs.2 p.1 ?_).trans e,n,ne,nf,d⟩;intro q;rw [q,hoc] at e;have q':oc=p.2:=Option.some.inj e;exact d w' (by rw [<-q'];exact hocd)
theorem ZFI {M:Model} {A:Around} {E:Value->Shared->Prop} {Q:Unit->Shared->Prop} (I:Inv X pins σ H s) (hN:X.N.Nodup) (hi:X.N[i]? =some x) (hx:Loc X.env.scope x) (r:RelV v u)
  (h:∀s',Inv X pins (σ.set i (some v)) H s'->Q () s') (hf:X.fn x=true∨X.env.scope.names.lookup x=some .local:=by first | exact .inl rfl | exact .inr rfl | assumption):wpAny M A (storeName X.env x u) Q E s:=
 ZFy I hN hi hx r (λs' I' _=>h s' I') hf
theorem Inv.call' {s':Shared} (I:Inv X pins σ H s) (ho:s'.os=s.os) (u:Un (frs X.stack) ch H H' s.heap s'.heap) (hok:HOk X.prog X.w H' s'.heap) (hg:AllBare s'.gens)
  (hch:∀b∈ch,(b∈X.ex∨X.s₀.heap.objs.size<=b)/\b≠X.env.locals/\(∀x c,X.env.cells.lookup x=some c->c≠b)/\∀p∈X.pn++pins,p.1≠b):Inv X pins σ H' s':=by
 obtain ⟨h',g',d',t',o'⟩:=s';have e:o'=s.os:=ho;subst e;exact I.call (g':=g') (t':=t') (d':=d') u hok hg hch
end
noncomputable abbrev XK:=Value->Option Addr->Hp->Prop
noncomputable abbrev St:=List (Option V)
variable {σ:St}
noncomputable abbrev VK:=V->Hp->Prop
noncomputable abbrev TE:=St->Hp->VK->Prop
variable {t te:TE}
noncomputable abbrev TT:=St->Hp->(Bool->Hp->Prop)->Prop
noncomputable abbrev TA:=St->Hp->(List V->Hp->Prop)->Prop
structure Ends where
 nx:St->Hp->Prop
 rt:VK
 bk:St->Hp->Prop:=λ_ _=>False
 ct:St->Hp->Prop:=λ_ _=>False
noncomputable abbrev TS:=Ends->St->Hp->Prop
noncomputable def EP (X:Cx) (pins:List (Addr×Obj)) (σ:St) (Q:VK) (u:Value) (s':Shared):Prop:=∃v H',Inv X pins σ H' s'/\RelV v u/\Q v H'
noncomputable def TP (X:Cx) (pins:List (Addr×Obj)) (σ:St) (Q:Bool->Hp->Prop) (b:Bool) (s':Shared):Prop:=∃H',Inv X pins σ H' s'/\Q b H'
noncomputable def AP (X:Cx) (pins:List (Addr×Obj)) (σ:St) (Q:List V->Hp->Prop) (us:List Value) (s':Shared):Prop:=∃vs H',Inv X pins σ H' s'/\Vals vs us/\Q vs H'
noncomputable def SP (X:Cx) (pins:List (Addr×Obj)) (D:Ends) (f:Flow) (s':Shared):Prop:=
 match f with
 | .next=>∃σ' H',Inv X pins σ' H' s'/\D.nx σ' H'
 | .brk=>∃σ' H',Inv X pins σ' H' s'/\D.bk σ' H'
 | .cont=>∃σ' H',Inv X pins σ' H' s'/\D.ct σ' H'
 | .ret u=>∃v σ' H',Inv X pins σ' H' s'/\RelV v u/\D.rt v H'
noncomputable def PE (X:Cx) (e:Expr) (t:TE):Prop:=
 ∀(pins:List (Addr×Obj)) (s:Shared) (σ:St) (H:Hp) (Q:VK),Inv X pins σ H s->t σ H Q->wpAny (model X.prog X.w) X.A (eval e X.env) (EP X pins σ Q) X.xe s
noncomputable def PT (X:Cx) (e:Expr) (t:TT):Prop:=
 ∀(pins:List (Addr×Obj)) (s:Shared) (σ:St) (H:Hp) (Q:Bool->Hp->Prop),Inv X pins σ H s->t σ H Q->wpAny (model X.prog X.w) X.A (isTrue e X.env (eval e X.env)) (TP X pins σ Q) X.xe s
noncomputable def PW (X:Cx) (e:Expr) (t:TT):Prop:=
 ∀(whole:Sem Value) (pins:List (Addr×Obj)) (s:Shared) (σ:St) (H:Hp) (Q:Bool->Hp->Prop),Inv X pins σ H s->t σ H Q->wpAny (model X.prog X.w) X.A (isTrue e X.env whole) (TP X pins σ Q) X.xe s
theorem PW.pt {t:TT} (h:PW X e t):PT X e t:=h _
noncomputable def PA (X:Cx) (es:List Expr) (t:TA):Prop:=
 ∀(pos:Pos) (pins:List (Addr×Obj)) (s:Shared) (σ:St) (H:Hp) (Q:List V->Hp->Prop),Inv X pins σ H s->t σ H Q->wpAny (model X.prog X.w) X.A (spliced (backTo pos (starEach es X.env))) (AP X pins σ Q) X.xe s
noncomputable def PS (X:Cx) (st:Stmt) (t:TS):Prop:=
 ∀(pins:List (Addr×Obj)) (s:Shared) (σ:St) (H:Hp) (D:Ends),Inv X pins σ H s->t D σ H->wpAny (model X.prog X.w) X.A (exec st X.env) (SP X pins D) X.xe s
noncomputable def PSs (X:Cx) (st:List Stmt) (t:TS):Prop:=
 ∀(pins:List (Addr×Obj)) (s:Shared) (σ:St) (H:Hp) (D:Ends),Inv X pins σ H s->t D σ H->wpAny (model X.prog X.w) X.A (execs st X.env) (SP X pins D) X.xe s
theorem thn {α:Type} {t:Sem α} {Q Q':α->Shared->Prop} {M:Model} (h:wpAny M A t Q E s) (hQ:∀a s,Q a s->Q' a s):wpAny M A t Q' E s:=wpAny_mono h hQ λ_ _ x=>x
section
variable {X:Cx}
theorem bin {a b:Expr} {ta tb:TE} (ha:PE X a ta) (hb:PE X b tb) {R:V->V->Hp->Prop} (I:Inv X pins σ H s) (h:ta σ H λx H1=>tb σ H1 λy H2=>R x y H2)
  {α:Type} {Q:α->Shared->Prop} {f:Value->Value->Sem α}
  (hf:∀v u s2 x y H2,Inv X pins σ H2 s2->RelV x v->RelV y u->R x y H2->wpAny (model X.prog X.w) X.A (f v u) Q X.xe s2):
  wpAny (model X.prog X.w) X.A (eval a X.env) (λv s₁=>wpAny (model X.prog X.w) X.A (eval b X.env) (λu s₂=>wpAny (model X.prog X.w) X.A (f v u) Q X.xe s₂) X.xe s₁) X.xe s:=by
 refine thn (ha pins s σ H _ I h) λv s1 ⟨x,H1,I1,r1,q1⟩=> ?_
 refine thn (hb pins s1 σ H1 _ I1 q1) λu s2 ⟨y,H2,I2,r2,q2⟩=> ?_
 exact hf v u s2 x y H2 I2 r1 r2 q2
noncomputable def tVar (i:Nat):TE:=λσ H Q=>∃v,σ[i]? =some (some v)/\Q v H
noncomputable def tC (v:V):TE:=λ_ H Q=>Q v H
theorem ZMq {pos:Pos} (hN:X.N[i]? =some x) (hv:Vis X.env.scope x) (hd:(x == ("__debug__":Str))=false:=by decide) (hcd:(x == ("__classdict__":Str))=false:=by decide):PE X (.Name x pos) (tVar i):=by
 intro pins s σ H Q I h;obtain ⟨v,e,h⟩:=h;obtain ⟨m,hn,hl⟩:=I.loc;obtain ⟨u,r,l⟩:=hl i x v hN e hv;have fin:EP X pins σ Q u s:=⟨v,H,I,r,h⟩;rcases l with ⟨hk,hm⟩ | ⟨hk,c,hc,hcell⟩
 ·exact wpAny_Name (wpAny_loadName_local I.ok.kind hk hn hm fin) hd
 ·rcases hk with hk | hk
  ·exact wpAny_Name (wpAny_loadName_cell I.ok.kind hk hc hcell fin) hd
  ·exact wpAny_Name (wpAny_loadName_free I.ok.kind hk hc hcell fin hcd) hd
theorem ZLo {i j pos}:PE X (.Constant (.int i) j pos) (tC (.int i)):=λ_ _ _ H _ I h=>wpAny_Constant_int ⟨.int i,H,I.tok _,⟨_,rfl⟩,h⟩
theorem ZMm {b j pos}:PE X (.Constant (.bool b) j pos) (tC (.bl b)):=λ_ _ _ H _ I h=>Constant_bool ⟨.bl b,H,I,rfl,h⟩
theorem ZLv {j pos}:PE X (.Constant .none j pos) (tC .non):=λ_ _ _ H _ I h=>Constant_none ⟨.non,H,I,rfl,h⟩
theorem ZNi {x j pos}:PE X (.Constant (.str x) j pos) (tC (.str x)):=λ_ _ _ H _ I h=>Calls.Constant_str ⟨.str x,H,I.tok _,⟨_,rfl⟩,h⟩
noncomputable def Gl (X:Cx) (x:Str):Prop:=X.env.kindOf x=some .globalImplicit
theorem ZCy {E:Value->Shared->Prop} {pos:Pos} (I:Inv X pins σ H s) (hg:Gl X x) (hm:X.mg x=some u) (h:Q u s)
  (hd:(x == ("__debug__":Str))=false:=by decide):wpAny (model X.prog X.w) X.A (eval (.Name x pos) X.env) Q E s:=
 Calls.Name_function_global I.ok.kind hg (Calls.loadGlobal_global (by rw [I.ok.glob];exact I.mod.glob.keeps I.bk) hm h) hd
theorem Jg {E:Value->Shared->Prop} {pos:Pos} (I:Inv X pins σ H s) (hg:Gl X x) (hm:X.mg x=none) (hv:bootBuiltins x=some u) (h:Q u s)
  (hn:x≠"__name__":=by decide) (hd:(x == ("__debug__":Str))=false:=by decide):wpAny (model X.prog X.w) X.A (eval (.Name x pos) X.env) Q E s:=by
 obtain ⟨mb,h1,h2⟩:=I.mod.blt;exact Calls.Name_function_global I.ok.kind hg (Calls.loadGlobal_builtin (by rw [I.ok.glob];exact I.mod.glob.keeps I.bk) hm (by rw [I.ok.blt];exact h1.keeps I.bk) ((h2 x hn).trans hv) h) hd
theorem ZMZ {pos:Pos} (hg:Gl X x) (hm:X.mg x=some u) (r:RelV v u) (hd:(x == ("__debug__":Str))=false:=by decide):PE X (.Name x pos) (tC v):=
 λ_ _ _ H _ I h=>ZCy I hg hm ⟨v,H,I,r,h⟩ hd
theorem ZNj {pos:Pos} (hg:Gl X x) (hm:X.mg x=none) (hv:bootBuiltins x=some u) (r:RelV v u) (hn:x≠"__name__":=by decide) (hd:(x == ("__debug__":Str))=false:=by decide):PE X (.Name x pos) (tC v):=
 λ_ _ _ H _ I h=>Jg I hg hm hv ⟨v,H,I,r,h⟩ hn hd
variable {a b:Expr} {ta tb:TE} {pos:Pos}
noncomputable def PC (X:Cx) (op:CmpOp) (a b:Expr) (t:TE):Prop:=
 ∀(pins:List (Addr×Obj)) (s:Shared) (σ:St) (H:Hp) (Q:VK),Inv X pins σ H s->t σ H Q->
  wpAny (model X.prog X.w) X.A (eval a X.env) (λv s₁=>wpAny (model X.prog X.w) X.A (eval b X.env) (λu s₂=>wpAny (model X.prog X.w) X.A (compareOp op v u) (EP X pins σ Q) X.xe s₂) X.xe s₁) X.xe s
theorem nobehind (b:Expr) (h:op≠ .In) (h2:op≠ .NotIn):behindInMarks op b=false:=by
 have e1:(op == CmpOp.In)=false:=by cases op <;> first | rfl | exact absurd rfl h
 have e2:(op == CmpOp.NotIn)=false:=by cases op <;> first | rfl | exact absurd rfl h2
 cases b <;> simp [behindInMarks,e1,e2]
noncomputable def tB (t:TE):TT:=λσ H Q=>t σ H λx H1=>∃c,x=.bl c/\Q c H1
theorem pt_cmp (h:PC X op a b t) (h1:behindInMarks op b=false:=by first | exact nobehind _ (by decide) (by decide) | rfl):PT X (.Compare a [op] [b] pos) (tB t):=by intro pins s σ H Q I hw;refine wpAny_isTrue_Compare1 (thn (h pins s σ H _ I hw) λv s1 h1=>thn h1 λu s2 h2=>thn h2 λc s3 ⟨x,H1,I1,r1,q1⟩=> ?_) h1;obtain ⟨d,rfl,q⟩:=q1;cases r1;exact wpAny_truthy_bool ⟨H1,I1,q⟩
theorem ZNv (h:PE X e t) (he:∀whole,isTrue e X.env whole=(do let v<-whole;standAt e.pos;holding [v] (truthy v)):=by intro _;rfl):PT X e (tB t):=by intro pins s σ H Q I hw;refine isTrue_plain (thn (h pins s σ H _ I hw) λv s1 ⟨x,H1,I1,r1,q1⟩=> ?_) (he _);obtain ⟨d,rfl,q⟩:=q1;cases r1;exact wpAny_truthy_bool ⟨H1,I1,q⟩
variable {tA tB':TT} {rest:List Expr}
noncomputable def tAnd (t u:TT):TT:=λσ H Q=>t σ H λc H1=>if c=true then u σ H1 Q else Q false H1
noncomputable def tOr (t u:TT):TT:=λσ H Q=>t σ H λc H1=>if c=true then Q true H1 else u σ H1 Q
noncomputable def tNot (t:TT):TT:=λσ H Q=>t σ H λc H1=>Q (!c) H1
theorem pw_and1 (ha:PT X a tA):PW X (.BoolOp .And [a] pos) tA:=by
 intro wh pins s σ H Q I h;refine isTrue_and (thn (ha pins s σ H Q I h) λc s1 e=> ?_);cases c with
 | true=>exact isTrue_and_nil e
 | false=>exact e
theorem pw_or1 (ha:PT X a tA):PW X (.BoolOp .Or [a] pos) tA:=by
 intro wh pins s σ H Q I h;refine isTrue_or (thn (ha pins s σ H Q I h) λc s1 e=> ?_);cases c with
 | false=>exact isTrue_or_nil e
 | true=>exact e
theorem pw_and (ha:PT X a tA) (hb:PW X (.BoolOp .And (b::rest) pos) tB'):PW X (.BoolOp .And (a::b::rest) pos) (tAnd tA tB'):=by
 intro wh pins s σ H Q I h;refine isTrue_and (thn (ha pins s σ H _ I h) λc s1 ⟨H1,I1,q1⟩=> ?_);cases c with
 | true=>exact hb wh pins s1 σ H1 Q I1 q1
 | false=>exact ⟨H1,I1,q1⟩
theorem pw_or (ha:PT X a tA) (hb:PW X (.BoolOp .Or (b::rest) pos) tB'):PW X (.BoolOp .Or (a::b::rest) pos) (tOr tA tB'):=by
 intro wh pins s σ H Q I h;refine isTrue_or (thn (ha pins s σ H _ I h) λc s1 ⟨H1,I1,q1⟩=> ?_);cases c with
 | true=>exact ⟨H1,I1,q1⟩
 | false=>exact hb wh pins s1 σ H1 Q I1 q1
theorem ZOx (ha:PT X a tA):PT X (.UnaryOp .Not a pos) (tNot tA):=by intro pins s σ H Q I h;exact isTrue_not (ha pins s σ H (λc H1=>Q (!c) H1) I h)
noncomputable def ZLB (ta tb:TE):TE:=λσ H Q=>ta σ H λx H1=>∃c,x=.bl c/\if c=true then tb σ H1 Q else Q (.bl false) H1
noncomputable def tOrV (ta tb:TE):TE:=λσ H Q=>ta σ H λx H1=>∃c,x=.bl c/\if c=true then Q (.bl true) H1 else tb σ H1 Q
noncomputable def ZNT (ta:TE):TE:=λσ H Q=>ta σ H λx H1=>∃c,x=.bl c/\Q (.bl (!c)) H1
theorem ZLq {op} (h:PE X a t):PE X (.BoolOp op [a] pos) t:=λpins s σ H Q I hw=>BoolOp_one (h pins s σ H Q I hw)
theorem ZPX (ha:PE X a ta) (hb:PE X (.BoolOp .And (b::rest) pos) tb):PE X (.BoolOp .And (a::b::rest) pos) (ZLB ta tb):=by
 intro pins s σ H Q I h;refine BoolOp_and (thn (ha pins s σ H _ I h) λv s1 ⟨x,H1,I1,r1,q1⟩=> ?_);obtain ⟨c,rfl,q1⟩:=q1;cases r1;refine wpAny_truthy_bool ?_;cases c with
 | true=>exact hb pins s1 σ H1 Q I1 q1
 | false=>exact ⟨.bl false,H1,I1,rfl,q1⟩
theorem ZPZ (ha:PE X a ta) (hb:PE X (.BoolOp .Or (b::rest) pos) tb):PE X (.BoolOp .Or (a::b::rest) pos) (tOrV ta tb):=by
 intro pins s σ H Q I h;refine BoolOp_or (thn (ha pins s σ H _ I h) λv s1 ⟨x,H1,I1,r1,q1⟩=> ?_);obtain ⟨c,rfl,q1⟩:=q1;cases r1;refine wpAny_truthy_bool ?_;cases c with
 | false=>exact hb pins s1 σ H1 Q I1 q1
 | true=>exact ⟨.bl true,H1,I1,rfl,q1⟩
theorem ZQ7 (ha:PE X a ta):PE X (.UnaryOp .Not a pos) (ZNT ta):=by intro pins s σ H Q I h;refine UnaryOp_ (thn (ha pins s σ H _ I h) λv s1 ⟨x,H1,I1,r1,q1⟩=> ?_);obtain ⟨c,rfl,q1⟩:=q1;cases r1;exact not_of (wpAny_truthy_bool ⟨.bl (!c),H1,I1,rfl,q1⟩)
noncomputable def tIf (t:TT) (ta tb:TE):TE:=λσ H Q=>t σ H λc H1=>if c=true then ta σ H1 Q else tb σ H1 Q
theorem ZMj (hc:PT X c tA) (ha:PE X a ta) (hb:PE X b tb):PE X (.IfExp c a b pos) (tIf tA ta tb):=by
 intro pins s σ H Q I h;refine wpAny_IfExp (thn (hc pins s σ H _ I h) λd s1 ⟨H1,I1,q1⟩=> ?_);cases d with
 | true=>exact ha pins s1 σ H1 Q I1 q1
 | false=>exact hb pins s1 σ H1 Q I1 q1
end
noncomputable def SqL (K:PySem.W.Frag) (H:Hp) (a:Addr) (xs:List V):Prop:=
 Rd H a (.lst xs)∨
  ∃(o:Obj) (its:Array Value) (n:Nat),K.lookup a=some o/\o.cls=.type "list"/\o.dict=none/\o.data=.seq its n/\its.size<=sizeLine/\Vals xs its.toList
noncomputable def SqT (K:PySem.W.Frag) (H:Hp) (a:Addr) (xs:List V):Prop:=
 Rd H a (.tup xs)∨
  ∃(o:Obj) (its:Array Value) (n:Nat),K.lookup a=some o/\o.cls=.type "tuple"/\o.data=.seq its n/\its.size<=sizeLine/\Vals xs its.toList
noncomputable def absV:Value->Option V
 | .none=>some .non
 | .bool b=>some (.bl b)
 | .int i _=>some (.int i)
 | .str x _=>some (.str x)
 | .bytes b _=>some (.byt b)
 | .float b _=>some (.flt b)
 | .ref a=>some (.ref a)
 | .type n=>some (.ty n)
 | _=>none
theorem RelV.abs {x:V} (r:RelV x u):absV u=some x:=by
 cases x with
 | non=>cases r;rfl
 | bl _=>cases r;rfl
 | int _=>obtain ⟨t,rfl⟩:=r;rfl
 | str _=>obtain ⟨t,rfl⟩:=r;rfl
 | byt _=>obtain ⟨t,rfl⟩:=r;rfl
 | flt _=>obtain ⟨t,rfl⟩:=r;rfl
 | ref _=>cases r;rfl
 | ty _=>cases r;rfl
theorem RelV.inj {x:V} (r:RelV x u) (q:RelV y u):x=y:=Option.some.inj (r.abs.symm.trans q.abs)
theorem Vals.inj:∀{xs ys:List V} {us:List Value},Vals xs us->Vals ys us->xs=ys
 | _,_,_,.nil,.nil=>rfl
 | _,_,_,.cons r t,.cons r' t'=>by rw [r.inj r',Vals.inj t t']
section
variable {X:Cx} {pins:List (Addr×Obj)} {σ:St} {H:Hp} {s:Shared} {a:Addr} {xs ys:List V}
theorem SqL.of (h:H a=some (.lst xs)):SqL K H a xs:=.inl (.inl h)
theorem SqT.of (h:H a=some (.tup xs)):SqT K H a xs:=.inl (.inl h)
theorem Inv.list (I:Inv X pins σ H s) (h:SqL X.K H a xs):∃its:List Value,Vals xs its/\PlainL s.heap a its.toArray/\xs.length<=sizeLine:=by
 rcases h with h | ⟨o,its,n,hk,hc,hd,hs,hz,r⟩
 ·obtain ⟨z,its,n,r,e⟩:=h.ok I.hok;exact ⟨its,r,⟨_,n,e,rfl,rfl,rfl⟩,z⟩
 ·refine ⟨its.toList,r,⟨o,n,I.kIn a o hk,hc,hd,by simpa using hs⟩,?_⟩;have e:=r.length;simp only [Array.length_toList] at e;lia
theorem Inv.tuple (I:Inv X pins σ H s) (h:SqT X.K H a xs):∃its:List Value,Vals xs its/\IsTup s.heap a its.toArray/\xs.length<=sizeLine:=by
 rcases h with h | ⟨o,its,n,hk,hc,hs,hz,r⟩
 ·obtain ⟨z,its,r,p⟩:=h.ok I.hok;exact ⟨its,r,p,z⟩
 ·refine ⟨its.toList,r,⟨o,I.kIn a o hk,hc,n,by simpa using hs⟩,?_⟩;have e:=r.length;simp only [Array.length_toList] at e;lia
theorem Inv.ZC7 (I:Inv X pins σ H s) (h:SqL X.K H a xs) (h':SqL X.K H a ys):xs=ys:=by
 obtain ⟨its,r,⟨o,n,e,_,_,d⟩,_⟩:=I.list h;obtain ⟨its',r',⟨o',n',e',_,_,d'⟩,_⟩:=I.list h';rw [e] at e';cases e';rw [d] at d';injection d' with d1 _
 have:its=its':=by simpa using congrArg Array.toList d1
 subst this;exact r.inj r'
theorem Inv.ZC4 (I:Inv X pins σ H s) (h:SqT X.K H a xs) (h':SqT X.K H a ys):xs=ys:=by
 obtain ⟨its,r,⟨o,e,_,n,d⟩,_⟩:=I.tuple h;obtain ⟨its',r',⟨o',e',_,n',d'⟩,_⟩:=I.tuple h';rw [e] at e';cases e';rw [d] at d';injection d' with d1 _
 have:its=its':=by simpa using congrArg Array.toList d1
 subst this;exact r.inj r'
end
noncomputable abbrev Cx.wish (X:Cx) (E:Value->Shared->Prop):Cx:={X with xe:=E}
noncomputable abbrev Cx.nox (X:Cx):Cx:=X.wish λ_ _=>False
theorem Cx.Ok.wish (ok:X.Ok) (E:Value->Shared->Prop):(X.wish E).Ok:=
 ⟨ok.mod,ok.kind,ok.glob,ok.blt,ok.above,ok.inj,ok.has,ok.cab,ok.hd,ok.frames,ok.stk,ok.exf,ok.bs,ok.bsz,ok.noex,ok.exfs,ok.funs,ok.frf⟩
theorem Cx.Ok.unwish (ok:(X.wish E).Ok):X.Ok:=
 ⟨ok.mod,ok.kind,ok.glob,ok.blt,ok.above,ok.inj,ok.has,ok.cab,ok.hd,ok.frames,ok.stk,ok.exf,ok.bs,ok.bsz,ok.noex,ok.exfs,ok.funs,ok.frf⟩
section
variable {X:Cx} {pins:List (Addr×Obj)} {σ:St} {H:Hp} {s:Shared} {E:Value->Shared->Prop}
theorem Inv.wish (I:Inv X pins σ H s) (E:Value->Shared->Prop):Inv (X.wish E) pins σ H s:=⟨I.ok.wish E,I.os,I.bare,I.base,I.loc,I.cell,I.free,I.Ir,I.pin,I.hok,I.len⟩
theorem Inv.unwish (I:Inv (X.wish E) pins σ H s):Inv X pins σ H s:=⟨I.ok.unwish,I.os,I.bare,I.base,I.loc,I.cell,I.free,I.Ir,I.pin,I.hok,I.len⟩
theorem SP.unwish {D:Ends} {f:Flow} {s':Shared} (h:SP (X.wish E) pins D f s'):SP X pins D f s':=by
 cases f with
 | next=>obtain ⟨σ',H',I,q⟩:=h;exact ⟨σ',H',I.unwish,q⟩
 | brk=>obtain ⟨σ',H',I,q⟩:=h;exact ⟨σ',H',I.unwish,q⟩
 | cont=>obtain ⟨σ',H',I,q⟩:=h;exact ⟨σ',H',I.unwish,q⟩
 | ret u=>obtain ⟨v,σ',H',I,r,q⟩:=h;exact ⟨v,σ',H',I.unwish,r,q⟩
theorem PSs.nox {st:List Stmt} {t:TS} (h:PSs X.nox st t):PSs X st t:=λpins s σ H D I hw=>
 wpAny_mono (h pins s σ H D (I.wish _) hw) (λ_ _ q=>q.unwish) λ_ _ z=>False.elim z
end
section
variable {X:Cx} {st:Stmt} {rest:List Stmt} {t u:TS} {e:Expr} {te:TE} {pos:Pos}
noncomputable def ZSM:TS:=λD σ H=>D.nx σ H
noncomputable def tSeq (t u:TS):TS:=λD σ H=>t {D with nx:=u D} σ H
theorem ZLp:PSs X [] ZSM:=λ_ _ σ H _ I h=>wpAny_execs_nil ⟨σ,H,I,h⟩
theorem ZQt (h1:PS X st t) (h2:PSs X rest u):PSs X (st::rest) (tSeq t u):=by
 intro pins s σ H D I h;refine wpAny_execs_cons (thn (h1 pins s σ H {D with nx:=u D} I h) λf s1 q=> ?_);cases f with
 | next=>
  obtain ⟨σ',H',I',q⟩:=q;exact h2 pins s1 σ' H' D I' q
 | ret v=>exact q
 | brk=>exact q
 | cont=>exact q
theorem ZSG (h1:PS X st t):PSs X [st] t:=by
 intro pins s σ H D I h;refine wpAny_execs_cons (thn (h1 pins s σ H D I h) λf s1 q=> ?_);cases f with
 | next=>exact wpAny_execs_nil q
 | ret v=>exact q
 | brk=>exact q
 | cont=>exact q
theorem Inv.quiet (I:Inv X pins σ H s):interactive X.env=false:=by simp [interactive,I.ok.kind]
noncomputable def ZJ6 (te:TE):TS:=λD σ H=>te σ H λ_ H1=>D.nx σ H1
theorem ZOD (he:PE X e te) (hs:swapsWith e none pos.line X.env=pure false:=by rfl):PS X (.Expr e pos) (ZJ6 te):=by intro pins s σ H D I h;exact wpAny_Expr_any (thn (he pins s σ H _ I h) λv s1 ⟨x,H1,I1,r1,q1⟩=>⟨σ,H1,I1,q1⟩) I.quiet hs
noncomputable def tRet (te:TE):TS:=λD σ H=>te σ H D.rt
theorem ZQc (he:PE X e te):PS X (.Return (some e) pos) (tRet te):=by intro pins s σ H D I h;exact wpAny_Return_some (thn (he pins s σ H _ I h) λv s1 ⟨x,H1,I1,r1,q1⟩=>⟨x,σ,H1,I1,r1,q1⟩)
noncomputable def tIfS (c:TT) (t u:TS):TS:=λD σ H=>c σ H λb H1=>if b=true then t D σ H1 else u D σ H1
theorem ZRU {a b:List Stmt} {tc:TT} (hc:PT X c tc) (ha:PSs X a t) (hb:PSs X b u):PS X (.If c a b pos) (tIfS tc t u):=by
 intro pins s σ H D I h;refine wpAny_If (thn (hc pins s σ H _ I h) λd s1 ⟨H1,I1,q1⟩=> ?_);cases d with
 | true=>exact ha pins s1 σ H1 D I1 q1
 | false=>exact hb pins s1 σ H1 D I1 q1
end
noncomputable abbrev TG:=V->St->Hp->(St->Hp->Prop)->Prop
noncomputable abbrev TGs:=List V->St->Hp->(St->Hp->Prop)->Prop
noncomputable def PG (X:Cx) (target:Expr) (t:TG):Prop:=
 ∀(pins:List (Addr×Obj)) (s:Shared) (σ:St) (H:Hp) (v:V) (u:Value) (Q:St->Hp->Prop),Inv X pins σ H s->RelV v u->t v σ H Q->
  wpAny (model X.prog X.w) X.A (assign target X.env u) (λ_ s'=>∃σ' H',Inv X pins σ' H' s'/\Q σ' H') X.xe s
noncomputable def PGs (X:Cx) (ts:List Expr) (t:TGs):Prop:=
 ∀(pins:List (Addr×Obj)) (s:Shared) (σ:St) (H:Hp) (vs:List V) (us:List Value) (Q:St->Hp->Prop),Inv X pins σ H s->Vals vs us->t vs σ H Q->
  wpAny (model X.prog X.w) X.A (assignInOrder ((assignEach ts X.env).map (·.2)) us) (λ_ s'=>∃σ' H',Inv X pins σ' H' s'/\Q σ' H') X.xe s
noncomputable abbrev TSet:=V->V->V->Hp->(Hp->Prop)->Prop
noncomputable def PSet (X:Cx) (t:TSet):Prop:=
 ∀(pins:List (Addr×Obj)) (s:Shared) (σ:St) (H:Hp) (o i v:V) (ov iv u:Value) (Q:Hp->Prop),Inv X pins σ H s->RelV o ov->RelV i iv->RelV v u->t o i v H Q->
  wpAny (model X.prog X.w) X.A (setItem ov iv u) (λ_ s'=>∃H',Inv X pins σ H' s'/\Q H') X.xe s
noncomputable abbrev TIp:=V->V->Hp->VK->Prop
noncomputable def PIp (X:Cx) (op:Operator) (t:TIp):Prop:=
 ∀(pins:List (Addr×Obj)) (s:Shared) (σ:St) (H:Hp) (x y:V) (v u:Value) (Q:VK),Inv X pins σ H s->RelV x v->RelV y u->t x y H Q->
  wpAny (model X.prog X.w) X.A (inplaceOp op v u) (EP X pins σ Q) X.xe s
section
variable {X:Cx} {pos:Pos}
noncomputable def ZF8 (i:Nat):TG:=λv σ H Q=>Q (σ.set i (some v)) H
theorem ZRb (hN:X.N.Nodup) (hi:X.N[i]? =some x) (hx:Loc X.env.scope x) (hf:X.fn x=true∨X.env.scope.names.lookup x=some .local:=by first | exact .inl rfl | exact .inr rfl | assumption):PG X (.Name x pos) (ZF8 i):=by intro pins s σ H v u Q I r h;exact wpAny_assign_Name (ZFI I hN hi hx r (λs' I'=>⟨_,H,I',h⟩) hf)
noncomputable def gNil:TGs:=λvs σ H Q=>vs= []/\Q σ H
noncomputable def ZL9 (t:TG) (u:TGs):TGs:=λvs σ H Q=>∃v r,vs=v::r/\t v σ H λσ' H'=>u r σ' H' Q
theorem ZR2:PGs X [] gNil:=by intro pins s σ H vs us Q I r h;obtain ⟨e,h⟩:=h;subst e;cases r;exact assignInOrder_nil ⟨σ,H,I,h⟩
theorem ZNE {es:List Expr} {t:TG} {u:TGs} (h1:PG X e t) (h2:PGs X es u)
  (hs:(assignEach (e::es) X.env).map (·.2)=assign e X.env::(assignEach es X.env).map (·.2):=by rfl):PGs X (e::es) (ZL9 t u):=by
 intro pins s σ H vs us Q I r h;obtain ⟨v,vr,e1,h⟩:=h;subst e1;cases r with
 | cons r rr=>
  rw [hs];refine assignInOrder_cons (thn (h1 pins s σ H _ _ _ I r h) λ_ s1 ⟨σ1,H1,I1,q1⟩=> ?_);exact h2 pins s1 σ1 H1 _ _ Q I1 rr q1
noncomputable def gTup (K:PySem.W.Frag) (n:Nat) (t:TGs):TG:=λv σ H Q=>∃a xs,v=.ref a/\SqT K H a xs/\xs.length=n/\t xs σ H Q
theorem ZKc {es:List Expr} {k:Nat} {t:TGs} {n:Nat} (hc:X.calm=true) (h:PGs X es t)
  (hn:(assignEach es X.env).length=n:=by rfl) (hst:(assignEach es X.env).findIdx? (·.1)=none:=by rfl):PG X (.Tuple es k pos) (gTup X.K n t):=by
 intro pins s σ H v u Q I r hw;obtain ⟨a,xs,e1,hq,hl,hw⟩:=hw;subst e1;cases r;obtain ⟨its,rv,ht,hz⟩:=I.tuple hq;refine assign_Tuple_tuple (I.ok.hd hc) ht (by simp [hn,<-hl,rv.length]) hst λh' hx=> ?_
 have I1:Inv X pins σ H {s with heap:=h'}:=I.kept (t':=s.toks) λb o e=>hx b o (Nat.ne_of_lt (Heap.lt_size e)) e
 exact h pins _ σ H xs _ Q I1 (by simpa using rv) hw
noncomputable def gSub (to ti:TE) (t:TSet):TG:=λv σ H Q=>to σ H λo H1=>ti σ H1 λi H2=>t o i v H2 λH3=>Q σ H3
theorem ZQT {o i:Expr} {to ti:TE} {t:TSet} (ho:PE X o to) (hi:PE X i ti) (hs:PSet X t)
  (ha:∀v,assign (.Subscript o i pos) X.env v=(do
   let ov<-holding [v] (eval o X.env);let iv<-holding [v,ov] (eval i X.env)
   standAt pos
   holding [v,ov,iv] (setItem ov iv v)
   release [v,ov,iv] []):=by intro _;rfl):PG X (.Subscript o i pos) (gSub to ti t):=by
 intro pins s σ H v u Q I r h;rw [ha];refine wpAny_bind (wpAny_holding (thn (ho pins s σ H _ I h) λov s1 ⟨x,H1,I1,r1,q1⟩=> ?_));refine wpAny_bind (wpAny_holding (thn (hi pins s1 σ H1 _ I1 q1) λiv s2 ⟨y,H2,I2,r2,q2⟩=> ?_));refine wpAny_bind (wpAny_standAt (wpAny_bind (wpAny_holding (thn (hs pins s2 σ H2 x y v ov iv u _ I2 r1 r2 r q2) λ_ s3 ⟨H3,I3,q3⟩=> ?_))));exact wpAny_release ⟨σ,H3,I3,q3⟩
noncomputable def ZD0 (te:TE) (g:TG):TS:=λD σ H=>te σ H λx H1=>g x σ H1 D.nx
theorem ZOq {g:TG} (he:PE X e te) (hg:PG X tg g) (hs:swapsWithSole [tg] e pos.line X.env=pure false:=by rfl) (hw:swappedStores [tg] e X.env=pure none:=by rfl)
  (h1:(assignEach [tg] X.env).map (·.2)= [assign tg X.env]:=by rfl):PS X (.Assign [tg] e pos) (ZD0 te g):=by
 intro pins s σ H D I h;refine wpAny_Assign_stores (thn (he pins s σ H _ I h) λv s1 ⟨x,H1,I1,r1,q1⟩=> ?_) hs hw;rw [h1];exact thn (hg pins s1 σ H1 x v _ I1 r1 q1) λ_ s2 q=>q
theorem ZPA {pos':Pos} (hN:X.N.Nodup) (hi:X.N[i]? =some x) (hx:Loc X.env.scope x) (he:PE X e te) (hs:swapsWith e (some (.Name x pos')) pos.line X.env=pure false:=by rfl) (hf:X.fn x=true∨X.env.scope.names.lookup x=some .local:=by first | exact .inl rfl | exact .inr rfl | assumption):
  PS X (.Assign [.Name x pos'] e pos) (ZD0 te (ZF8 i)):=by
 intro pins s σ H D I h;refine wpAny_Assign_Name (thn (he pins s σ H _ I h) λv s1 ⟨y,H1,I1,r1,q1⟩=> ?_) hs;exact ZFI I1 hN hi hx r1 (λs2 I2=>⟨_,H1,I2,q1⟩) hf
noncomputable def tAug (i:Nat) (te:TE) (ti:TIp):TS:=λD σ H=>∃x,σ[i]? =some (some x)/\te σ H λy H1=>ti x y H1 λz H2=>D.nx (σ.set i (some z)) H2
theorem ZKF {op:Operator} {ti:TIp} {pos':Pos} (hN:X.N.Nodup) (hi:X.N[i]? =some x) (hx:Loc X.env.scope x) (he:PE X e te) (ho:PIp X op ti) (hf:X.fn x=true∨X.env.scope.names.lookup x=some .local:=by first | exact .inl rfl | exact .inr rfl | assumption):
  PS X (.AugAssign (.Name x pos') op e pos) (tAug i te ti):=by
 intro pins s σ H D I h;obtain ⟨v,e1,h⟩:=h;obtain ⟨m,hn,hl⟩:=I.loc;have vis:Vis X.env.scope x:=by rcases hx with k | k;exact .inl k;exact .inr (.inl k)
 obtain ⟨u,r,l⟩:=hl i x v hi e1 vis;refine wpAny_AugAssign_Name ?_
 have go:wpAny (model X.prog X.w) X.A (eval e X.env) (λw s₂=>wpAny (model X.prog X.w) X.A (inplaceOp op u w) (λr s₃=>wpAny (model X.prog X.w) X.A (storeName X.env x r) (λ_=>SP X pins D .next) X.xe s₃) X.xe s₂) X.xe s:=by
  refine thn (he pins s σ H _ I h) λw s1 ⟨y,H1,I1,r1,q1⟩=> ?_
  refine thn (ho pins s1 σ H1 v y u w _ I1 r r1 q1) λz s2 ⟨zv,H2,I2,r2,q2⟩=> ?_
  exact ZFI I2 hN hi hx r2 (λs3 I3=>⟨_,H2,I3,q2⟩) hf
 rcases l with ⟨hk,hm⟩ | ⟨hk,c,hc,hcell⟩
 ·exact wpAny_loadName_local I.ok.kind hk hn hm go
 ·rcases hk with hk | hk
  ·exact wpAny_loadName_cell I.ok.kind hk hc hcell go
  ·rcases hx with k | k
   ·have:X.env.scope.names.lookup x=some .free:=hk;rw [k] at this;cases this
   ·have:X.env.scope.names.lookup x=some .free:=hk;rw [k] at this;cases this
noncomputable def ipI (f:Int->Int->Int):TIp:=λx y H Q=>∃i j,x=.int i/\y=.int j/\Q (.int (f i j)) H
theorem ZNS:PIp X .Add (ipI λi j=>i + j):=by intro pins s σ H x y v u Q I r1 r2 h;obtain ⟨i,j,e1,e2,q⟩:=h;subst e1;subst e2;obtain ⟨t,rfl⟩:=r1;obtain ⟨t',rfl⟩:=r2;exact iadd_int ⟨.int _,H,I.tok _,⟨_,rfl⟩,q⟩
theorem ZL0:PIp X .Sub (ipI λi j=>i - j):=by intro pins s σ H x y v u Q I r1 r2 h;obtain ⟨i,j,e1,e2,q⟩:=h;subst e1;subst e2;obtain ⟨t,rfl⟩:=r1;obtain ⟨t',rfl⟩:=r2;exact isub_int ⟨.int _,H,I.tok _,⟨_,rfl⟩,q⟩
end
section
variable {X:Cx} {pos:Pos}
noncomputable def ZQK (c:TT) (tb:TS):TS:=λD σ H=>∃W:Nat->St->Hp->Prop,(∃m,W m σ H)/\∀m σ H,W m σ H->
 c σ H λb H1=>if b=true then∃N:St->Hp->Prop,(∀σ' H',N σ' H'->∃m',m' < m/\W m' σ' H')/\tb {D with nx:=N,ct:=N,bk:=D.nx} σ H1 else D.nx σ H1
theorem ZLW {tc:TT} {tb:TS} (hp:PassesOwn (model X.prog X.w) X.A X.env X.xe) (hc:PT X c tc) (hb:PSs X body tb):PS X (.While c body [] pos) (ZQK tc tb):=by
 intro pins s σ H D I h;obtain ⟨W,⟨m0,w0⟩,turn⟩:=h;refine wpAny_While (codeAny_whileLoop (λn s'=>∃σ' H',Inv X pins σ' H' s'/\W n σ' H') ?_ m0 ⟨σ,H,I,w0⟩);rintro n s1 ⟨σ1,H1,I1,w1⟩;refine wpAny_passesOwn hp (thn (hc pins s1 σ1 H1 _ I1 (turn n σ1 H1 w1)) λb s2 ⟨H2,I2,q2⟩=> ?_);cases b with
 | true=>
  obtain ⟨N,hN,q2⟩:=q2;rw [if_pos rfl];refine wpAny_passesOwn hp (thn (hb pins s2 σ1 H2 _ I2 q2) λf s3 q3=> ?_);cases f with
  | next=>
   obtain ⟨σ3,H3,I3,n3⟩:=q3;obtain ⟨m',hm,w3⟩:=hN σ3 H3 n3;exact ⟨m',hm,σ3,H3,I3,w3⟩
  | cont=>
   obtain ⟨σ3,H3,I3,n3⟩:=q3;obtain ⟨m',hm,w3⟩:=hN σ3 H3 n3;exact ⟨m',hm,σ3,H3,I3,w3⟩
  | brk=>exact q3
  | ret v=>exact q3
 | false=>
  rw [if_neg Bool.false_ne_true];exact wpAny_execs_nil ⟨σ1,H2,I2,q2⟩
end
structure It where
 go:Nat->Hp->Prop
 yld:Nat->Hp->V->Hp->Prop
 stop:Nat->Hp->Prop
noncomputable def FpOk (X:Cx) (pins:List (Addr×Obj)) (H:Hp) (b:Addr):Prop:=
 H b=none/\b≠X.env.locals/\b ∉ X.fs/\(b∈X.ex∨X.s₀.heap.objs.size<=b)/\(∀x c,X.env.cells.lookup x=some c->c≠b)/\∀p∈X.pn++pins,p.1≠b
theorem Inv.Ks {H':Hp} (I:Inv X pins σ H s) (hb:s.heap.objs.size<=b) (hn:H' b=none):FpOk X pins H' b:=by
 refine ⟨hn,Nat.ne_of_gt (Nat.lt_of_lt_of_le I.lt hb),I.nofs hb,.inr (Nat.le_trans I.sz hb),λx c e z=> ?_,λp hp z=> ?_⟩
 ·obtain ⟨v,q⟩:=I.cell x c e;exact absurd (Nat.lt_of_lt_of_le q.lt (by rw [z];exact hb)) (Nat.lt_irrefl _)
 ·exact absurd (Nat.lt_of_lt_of_le (Heap.lt_size (I.pin p hp).1) (by rw [z];exact hb)) (Nat.lt_irrefl _)
structure Turn (P:Program) (w:World) (K:PySem.W.Frag) (tg:Expr) (J:It) (fp:List Addr) (it:Addr) (tn:Nat->Heap->Prop):Prop where
 mem:it∈fp
 obj:∀i h,tn i h->∀b∈fp,∃o,h.get? b=some o/\∀v,o.data≠ .cell v
 keep:∀i h h',tn i h->(∀b∈fp,∀o,h.get? b=some o->h'.get? b=some o)->tn i h'
 item:∀(X:Cx),X.prog=P->X.w=w->X.K=K->X.calm=true->∀(i:Nat) (pins:List (Addr×Obj)) (s:Shared) (σ:St) (H:Hp) (E:Value->Shared->Prop),Inv X pins σ H s->(∀b∈fp,FpOk X pins H b)->tn i s.heap->J.go i H->
  wpAny (model P w) X.A (pyNext (.ref it)) (λr s1=>∃u,r=some u/\
   wpAny (model P w) X.A (letOwnedTupleGo tg (.ref it) u) (λ_ s2=>∃x H',Inv X pins σ H' s2/\RelV x u/\J.yld i H x H'/\tn (i + 1) s2.heap/\∀b∈fp,H' b=none) E s1) E s
 done:∀(X:Cx),X.prog=P->X.w=w->X.K=K->X.calm=true->∀(i:Nat) (pins:List (Addr×Obj)) (s:Shared) (σ:St) (H:Hp) (E:Value->Shared->Prop),Inv X pins σ H s->(∀b∈fp,FpOk X pins H b)->tn i s.heap->J.stop i H->
  wpAny (model P w) X.A (pyNext (.ref it)) (λr s1=>r=none/\Inv X pins σ H s1) E s
 self:∀(A:Around) (i:Nat) (s:Shared) (Q:Value->Shared->Prop) (E:Value->Shared->Prop),tn i s.heap->Q (.ref it) s->wpAny (model P w) A (pyIter (.ref it)) Q E s
noncomputable abbrev TI:=St->Hp->(It->Hp->Prop)->Prop
noncomputable def PIE (X:Cx) (pins:List (Addr×Obj)) (σ:St) (tg:Expr) (R:It->Hp->Prop) (itv:Value) (s2:Shared):Prop:=
 ∃(it:Addr) (fp:List Addr) (tn:Nat->Heap->Prop) (J:It) (H':Hp),itv=.ref it/\Inv X pins σ H' s2/\Turn X.prog X.w X.K tg J fp it tn/\tn 0 s2.heap/\(∀b∈fp,FpOk X pins H' b)/\R J H'
noncomputable def PI (X:Cx) (tg iter:Expr) (wi:TI):Prop:=
 ∀(pins:List (Addr×Obj)) (s:Shared) (σ:St) (H:Hp) (R:It->Hp->Prop),Inv X pins σ H s->wi σ H R->
  wpAny (model X.prog X.w) X.A (eval iter X.env) (λv s1=>wpAny (model X.prog X.w) X.A (pyIter v) (PIE X pins σ tg R) X.xe s1) X.xe s
theorem Oe {M:Model} {it:Addr} {o:Obj} {n:String} {vs:Array Value} {Q:Unit->Shared->Prop} (ho:s.heap.get? it=some o) (hc:o.cls=.type n) (hd:o.data=.fields vs)
  (hn: ["enumerate","zip","dict_itemiterator","dict_reverseitemiterator","odict_iterator","itertools.zip_longest","itertools.pairwise"].contains n=false) (hQ:Q () s):wpAny M A (letOwnedTupleGo tg (.ref it) u) Q E s:=by
 unfold letOwnedTupleGo
 cases tg <;> first
  | exact wpAny_pure hQ
  | (cases u <;> first
    | exact wpAny_pure hQ
    | (
      refine wpAny_bind (wpAny_load ho ?_);rw [hc,hd];show wpAny M A (if (["enumerate","zip","dict_itemiterator","dict_reverseitemiterator","odict_iterator","itertools.zip_longest","itertools.pairwise"].contains n && vs[0]? == some (rawInt _))=true then _ else _) Q E s;rw [if_neg (by intro h;rw [hn,Bool.false_and] at h;cases h)];exact wpAny_pure hQ))
noncomputable def Itl (K:PySem.W.Frag) (a:Addr):It:=
 ⟨λi H=>∃xs x,SqL K H a xs/\xs[i]? =some x,λi H x H'=>H'=H/\∀xs,SqL K H a xs->xs[i]? =some x,λi H=>∃xs,SqL K H a xs/\xs.length<=i⟩
noncomputable def Itt (K:PySem.W.Frag) (a:Addr):It:=
 ⟨λi H=>∃xs x,SqT K H a xs/\xs[i]? =some x,λi H x H'=>H'=H/\∀xs,SqT K H a xs->xs[i]? =some x,λi H=>∃xs,SqT K H a xs/\xs.length<=i⟩
noncomputable def Itr (lo:Int) (n:Nat):It:=⟨λi _=>i < n,λi H x H'=>H'=H/\x=.int (lo + i),λi _=>n<=i⟩
theorem ZR6 (a it:Addr):Turn P w K tg (Itl K a) [it] it (λi h=>h.IsListIter it a i) where
 mem:=by simp
 obj:=λi h st b hb=>by
  have e:b=it:=by simpa using hb
  subst e;obtain ⟨o,e,c,d⟩:=st;exact ⟨o,e,λv z=>by rw [d] at z;cases z⟩
 keep:=λi h h' st k=>st.at λo e=>k it (by simp) o e
 item:=by
  intro X hP hw hK hc i pins s σ H E I hf st hg;subst hP hw hK;obtain ⟨xs,x,hq,hx⟩:=hg;obtain ⟨its,rv,p,hz⟩:=I.list hq;obtain ⟨u,hu,ru⟩:=rv.get hx;obtain ⟨f0,f1,f2,f3,f4,f5⟩:=hf it (by simp);refine wpAny_pyNext_list_item st p.isList (x:=u) (by simpa using hu) λh' st' sb=> ?_
  have I1:Inv X pins σ H {s with heap:=h'}:=I.turned (t':=s.toks) (λb o hb e=>(sb.2 b hb).trans e) f0 f1 f3 f4 f5;obtain ⟨o,e,c,d⟩:=id st';exact ⟨u,rfl,Oe (s:={s with heap:=h'}) e c d (by decide) ⟨x,H,I1,ru,⟨rfl,λys hy=>by rw [I.ZC7 hy hq];exact hx⟩,st',λb hb=>(hf b hb).1⟩⟩
 done:=by intro X hP hw hK hc i pins s σ H E I hf st hg;subst hP hw hK;obtain ⟨xs,hq,hx⟩:=hg;obtain ⟨its,rv,p,hz⟩:=I.list hq;obtain ⟨f0,f1,f2,f3,f4,f5⟩:=hf it (by simp);have hl:=rv.length;exact wpAny_pyNext_list_end (I.ok.hd hc) st p.isList (by simp;lia) λh' eb=>⟨rfl,I.turned (t':=s.toks) (λb o hb e=>eb b o hb e) f0 f1 f3 f4 f5⟩
 self:=λ_ _ _ _ _ st h=>wpAny_pyIter_listiter st h
theorem ZMt (a it:Addr):Turn P w K tg (Itt K a) [it] it (λi h=>h.IsTupleIter it a i) where
 mem:=by simp
 obj:=λi h st b hb=>by
  have e:b=it:=by simpa using hb
  subst e;obtain ⟨o,e,c,d⟩:=st;exact ⟨o,e,λv z=>by rw [d] at z;cases z⟩
 keep:=λi h h' st k=>st.at λo e=>k it (by simp) o e
 item:=by
  intro X hP hw hK hc i pins s σ H E I hf st hg;subst hP hw hK;obtain ⟨xs,x,hq,hx⟩:=hg;obtain ⟨its,rv,p,hz⟩:=I.tuple hq;obtain ⟨u,hu,ru⟩:=rv.get hx;obtain ⟨f0,f1,f2,f3,f4,f5⟩:=hf it (by simp)
  refine wpAny_pyNext_tuple_item st (show s.heap.IsTuple a its.toArray from p) (x:=u) (by simpa using hu) λh' st' sb=> ?_
  have I1:Inv X pins σ H {s with heap:=h'}:=I.turned (t':=s.toks) (λb o hb e=>(sb.2 b hb).trans e) f0 f1 f3 f4 f5;obtain ⟨o,e,c,d⟩:=id st';exact ⟨u,rfl,Oe (s:={s with heap:=h'}) e c d (by decide) ⟨x,H,I1,ru,⟨rfl,λys hy=>by rw [I.ZC4 hy hq];exact hx⟩,st',λb hb=>(hf b hb).1⟩⟩
 done:=by
  intro X hP hw hK hc i pins s σ H E I hf st hg;subst hP hw hK;obtain ⟨xs,hq,hx⟩:=hg;obtain ⟨its,rv,p,hz⟩:=I.tuple hq;obtain ⟨f0,f1,f2,f3,f4,f5⟩:=hf it (by simp);have hl:=rv.length
  exact wpAny_pyNext_tuple_end (I.ok.hd hc) st (show s.heap.IsTuple a its.toArray from p) (by simp;lia) λh' eb=>⟨rfl,I.turned (t':=s.toks) (λb o hb e=>eb b o hb e) f0 f1 f3 f4 f5⟩
 self:=λ_ _ _ _ _ st h=>wpAny_pyIter_tupleiter st h
theorem ZSP (it:Addr) (lo:Int) (n:Nat):Turn P w K tg (Itr lo n) [it] it (λi h=>IsRangeIter h it (lo + (i:Nat) * 1) ((n:Int) - (i:Nat)) 1) where
 mem:=by simp
 obj:=λi h st b hb=>by
  have e:b=it:=by simpa using hb
  subst e;exact ⟨_,st,λv z=>by have z':Data.fields _=Data.cell v:=z;cases z'⟩
 keep:=λi h h' st k=>k it (by simp) _ st
 item:=by
  intro X hP hw hK hc i pins s σ H E I hf st hg;subst hP hw hK;obtain ⟨f0,f1,f2,f3,f4,f5⟩:=hf it (by simp);have W:=Walks.range (prog:=X.prog) (w:=X.w) (I.ok.hd hc) it lo 1 n;refine W.item i s _ _ hg st λv h' tk hv st' kk=> ?_
  obtain ⟨t,rfl⟩:=hv;have I1:Inv X pins σ H {s with heap:=h',toks:=tk}:=I.turned (λb o hb e=>kk b o (by simpa using hb) e) f0 f1 f3 f4 f5;refine ⟨_,rfl,Oe (s:={s with heap:=h',toks:=tk}) (n:="range_iterator") st' rfl rfl (by decide) ⟨.int (lo + i),H,I1,⟨t,?_⟩,⟨rfl,rfl⟩,st',λb hb=>(hf b hb).1⟩⟩;rw [Int.mul_one]
 done:=by intro X hP hw hK hc i pins s σ H E I hf st hg;subst hP hw hK;obtain ⟨f0,f1,f2,f3,f4,f5⟩:=hf it (by simp);exact wpAny_pyNext_range_end (I.ok.hd hc) st (by have:n<=i:=hg;lia) λh' eb=>⟨rfl,I.turned (t':=s.toks) (λb o hb e=>eb b o hb e) f0 f1 f3 f4 f5⟩
 self:=λ_ _ _ _ _ st h=>wpAny_pyIter_rangeiter st h
section
variable {X:Cx} {tg:Expr}
noncomputable def ZOw (K:PySem.W.Frag) (tl:TE):TI:=λσ H R=>tl σ H λx H1=>∃a,x=.ref a/\(∃xs,SqL K H1 a xs)/\R (Itl K a) H1
noncomputable def iTup (K:PySem.W.Frag) (tl:TE):TI:=λσ H R=>tl σ H λx H1=>∃a,x=.ref a/\(∃xs,SqT K H1 a xs)/\R (Itt K a) H1
theorem ZCh {l:Expr} {tl:TE} (hl:PE X l tl):PI X tg l (ZOw X.K tl):=by
 intro pins s σ H R I h;refine thn (hl pins s σ H _ I h) λv s1 ⟨x,H1,I1,r1,q1⟩=> ?_
 obtain ⟨a,e,⟨xs,hq⟩,q⟩:=q1;subst e;cases r1;obtain ⟨its,rv,p,hz⟩:=I1.list hq;refine wpAny_pyIter_list p.isList ?_;refine ⟨s1.heap.objs.size,[s1.heap.objs.size],_,_,H1,rfl,I1.kept (t':=s1.toks) λb o e=>Heap.get?_push_of_some _ e,ZR6 a _,⟨_,Heap.get?_push_size _ rfl,rfl,rfl⟩,λb hb=> ?_,q⟩;have e:b=s1.heap.objs.size:=by simpa using hb
 subst e;exact I1.Ks (Nat.le_refl _) (I1.hok.fresh (Nat.le_refl _))
theorem ZMX {l:Expr} {tl:TE} (hl:PE X l tl):PI X tg l (iTup X.K tl):=by
 intro pins s σ H R I h;refine thn (hl pins s σ H _ I h) λv s1 ⟨x,H1,I1,r1,q1⟩=> ?_
 obtain ⟨a,e,⟨xs,hq⟩,q⟩:=q1;subst e;cases r1;obtain ⟨its,rv,p,hz⟩:=I1.tuple hq
 refine wpAny_pyIter_tuple (show s1.heap.IsTuple a its.toArray from p) ?_
 refine ⟨s1.heap.objs.size,[s1.heap.objs.size],_,_,H1,rfl,I1.kept (t':=s1.toks) λb o e=>Heap.get?_push_of_some _ e,ZMt a _,⟨_,Heap.get?_push_size _ rfl,rfl,rfl⟩,λb hb=> ?_,q⟩;have e:b=s1.heap.objs.size:=by simpa using hb
 subst e;exact I1.Ks (Nat.le_refl _) (I1.hok.fresh (Nat.le_refl _))
theorem ZRw {R:It->Hp->Prop} {lo hi:Int} {t u v:Tok} {tk:Nat} (I:Inv X pins σ H s) (h1: -(2 ^ 62)<=lo) (h2:lo < 2 ^ 62) (h3: -(2 ^ 62)<=hi) (h4:hi < 2 ^ 62)
  (q:R (Itr lo (hi - lo).toNat) H):wpAny (model X.prog X.w) X.A (pyIter (.ref s.heap.objs.size)) (PIE X pins σ tg R) E {s with heap:=s.heap.push {cls:=.type "range",data:=.fields #[.int lo t,.int hi u,.int 1 v]},toks:=tk}:=by
 refine wpAny_pyIter_range (IsRange.new ..) (small_one h1 h2 h3 h4) ?_;have I1:Inv X pins σ H {s with heap:=s.heap.push {cls:=.type "range",data:=.fields #[.int lo t,.int hi u,.int 1 v]},toks:=tk}:=I.kept λb o e=>Heap.get?_push_of_some _ e
 refine ⟨(s.heap.push {cls:=.type "range",data:=.fields #[.int lo t,.int hi u,.int 1 v]}).objs.size,[(s.heap.push {cls:=.type "range",data:=.fields #[.int lo t,.int hi u,.int 1 v]}).objs.size],_,_,H,rfl,
  I1.kept (t':=tk) λb o e=>Heap.get?_push_of_some _ e,ZSP _ lo (hi - lo).toNat,?_,λb hb=> ?_,q⟩
 ·have e1:lo + ((0:Nat):Int) * 1=lo:=by simp
  have e2:(((hi - lo).toNat:Nat):Int) - ((0:Nat):Int)=Builtin.Range.rangeSize lo hi 1:=by rw [rangeSize_one];split <;> lia
  show IsRangeIter _ _ (lo + ((0:Nat):Int) * 1) ((((hi - lo).toNat:Nat):Int) - ((0:Nat):Int)) 1;rw [e1,e2];exact Heap.get?_push_size _ rfl
 ·have e:b=(s.heap.push {cls:=.type "range",data:=.fields #[.int lo t,.int hi u,.int 1 v]}).objs.size:=by simpa using hb
  subst e;exact I1.Ks (Nat.le_refl _) (I1.hok.fresh (Nat.le_refl _))
noncomputable def ZLc (ta:TA):TI:=λσ H R=>ta σ H λvs H1=>∃j:Int,vs= [.int j]/\ -(2 ^ 62)<=j/\j < 2 ^ 62/\R (Itr 0 j.toNat) H1
theorem ZSf {a:Expr} {ta:TA} {p pos:Pos} (hg:Gl X "range") (hm:X.mg "range"=none) (ha:PA X [a] ta) (hs:starEach [a] X.env= [(false,eval a X.env)]:=by rfl):PI X tg (.Call (.Name "range" p) [a] [] pos) (ZLc ta):=by
 intro pins s σ H R I h;refine Call_ (Jg I hg hm boot_range (PyProof.Rows.callWith_type1 (thn (ha pos pins s σ H _ I h) λus s1 ⟨vs,H1,I1,r1,q1⟩=> ?_) hs rfl));obtain ⟨j,e,q1,q2,q⟩:=q1;subst e;cases r1 with
 | cons r rr=>
  cases rr;obtain ⟨t,rfl⟩:=r;exact call_range_1 (ZRw I1 (by lia) (by lia) q1 q2 (by simpa using q))
noncomputable def tFor (wi:TI) (g:TG) (tb:TS):TS:=λD σ H=>wi σ H λJ H1=>∃W:Nat->Nat->St->Hp->Prop,(∃m,W 0 m σ H1)/\∀i m σ H,W i m σ H->
 (J.stop i H/\D.nx σ H)∨(J.go i H/\∃N:St->Hp->Prop,(∀σ' H',N σ' H'->∃m',m' < m/\W (i + 1) m' σ' H')/\∀x H',J.yld i H x H'->g x σ H' λσ2 H2=>tb {D with nx:=N,ct:=N,bk:=D.nx} σ2 H2)
noncomputable def Pu (fp:List Addr) (h:Heap):List (Addr×Obj):=fp.filterMap λb=>(h.get? b).map λo=>(b,o)
theorem Xb {o:Obj} (hb:b∈fp) (e:h.get? b=some o):(b,o)∈Pu fp h:=List.mem_filterMap.mpr ⟨b,hb,by rw [e];rfl⟩
theorem ZGp {p:Addr×Obj} (hp:p∈Pu fp h):p.1∈fp/\h.get? p.1=some p.2:=by
 obtain ⟨b,hb,e⟩:=List.mem_filterMap.mp hp;cases q:h.get? b with
 | none=>rw [q] at e;cases e
 | some o=>
  rw [q] at e;have e':(b,o)=p:=Option.some.inj e;subst e';exact ⟨hb,q⟩
theorem Inv.pinned (I:Inv X pins σ H s) (hf:∀b∈fp,FpOk X pins H b) (ho:∀b∈fp,∃o,s.heap.get? b=some o/\∀v,o.data≠ .cell v):Inv X (pins++Pu fp s.heap) σ H s:=
 I.M4 λp hp=>(List.mem_append.mp hp).elim (λz=>I.pin p (List.mem_append_right _ z)) λz=>by obtain ⟨hb,e⟩:=ZGp z;obtain ⟨f0,f1,f2,_⟩:=hf p.1 hb;obtain ⟨o,e',d⟩:=ho p.1 hb;rw [e] at e';cases e';exact ⟨e,f0,f1,f2,d⟩
theorem Inv.unpinned {pl:List (Addr×Obj)} (I:Inv X (pins++pl) σ H s):Inv X pins σ H s:=I.M4 λp hp=>I.pin p (List.mem_append_right _ (List.mem_append_left _ hp))
theorem ZNg {iter:Expr} {wi:TI} {g:TG} {tb:TS} {pos:Pos} (hp:PassesOwn (model X.prog X.w) X.A X.env X.xe) (hc:X.calm=true) (hi:PI X tg iter wi) (hg:PG X tg g) (hb:PSs X body tb)
  (hs:∀x,foldedSetIterable iter X.env x=pure x:=by intro _;rfl):PS X (.For tg iter body [] pos) (tFor wi g tb):=by
 intro pins s σ H D I h;refine wpAny_For (thn (hi pins s σ H _ I h) λv s1 h1=>thn h1 λitv s2 h2=> ?_) hs;obtain ⟨it,fp,tn,J,H2,e,I2,T,st2,f2,W,⟨m0,w0⟩,turn⟩:=h2;subst e;have stat:∀{H':Hp},(∀b∈fp,H' b=none)->∀b∈fp,FpOk X pins H' b:=λhn b hb=>⟨hn b hb,(f2 b hb).2⟩
 refine codeAny_forLoop_any (λn s'=>∃i σ' H',Inv X pins σ' H' s'/\tn i s'.heap/\(∀b∈fp,H' b=none)/\W i n σ' H') ?_ m0 ⟨0,σ,H2,I2,st2,λb hb=>(f2 b hb).1,w0⟩;rintro n s3 ⟨i,σ3,H3,I3,st3,fr3,w3⟩;rcases turn i n σ3 H3 w3 with ⟨stop,qn⟩ | ⟨go,N,hN,step⟩
 ·refine wpAny_passesOwn hp (thn (T.done X rfl rfl rfl hc i pins s3 σ3 H3 X.xe I3 (stat fr3) st3 stop) λr s4 ⟨hr,I4⟩=> ?_);subst hr;exact wpAny_execs_nil ⟨σ3,H3,I4,qn⟩
 ·refine wpAny_passesOwn hp (thn (T.item X rfl rfl rfl hc i pins s3 σ3 H3 X.xe I3 (stat fr3) st3 go) λr s4 ⟨u,hr,h4⟩=> ?_);subst hr;refine wpAny_passesOwn hp (thn h4 λ_ s5 ⟨x,H5,I5,r5,y5,st5,fr5⟩=> ?_);have I5':=I5.pinned (stat fr5) (T.obj _ _ st5);refine wpAny_passesOwn hp (thn (hg _ s5 σ3 H5 x u _ I5' r5 (step x H5 y5)) λ_ s6 ⟨σ6,H6,I6,q6⟩=> ?_);refine wpAny_passesOwn hp (thn (hb _ s6 σ6 H6 _ I6 q6) λf s7 q7=> ?_)
  have again:∀{σ7:St} {H7:Hp},Inv X (pins++Pu fp s5.heap) σ7 H7 s7->N σ7 H7->∃m,m < n/\∃i σ' H',Inv X pins σ' H' s7/\tn i s7.heap/\(∀b∈fp,H' b=none)/\W i m σ' H':=λ{σ7 H7} I7 n7=>by obtain ⟨m',hm,w7⟩:=hN σ7 H7 n7;refine ⟨m',hm,i + 1,σ7,H7,I7.unpinned,T.keep _ _ _ st5 λb hb o e=>(I7.pin (b,o) (List.mem_append_right _ (List.mem_append_right _ (Xb hb e)))).1,λb hb=> ?_,w7⟩;obtain ⟨o,e,d⟩:=T.obj _ _ st5 b hb;exact (I7.pin (b,o) (List.mem_append_right _ (List.mem_append_right _ (Xb hb e)))).2.1
  cases f with
  | next=>obtain ⟨σ7,H7,I7,n7⟩:=q7;exact again I7 n7
  | cont=>obtain ⟨σ7,H7,I7,n7⟩:=q7;exact again I7 n7
  | brk=>obtain ⟨σ7,H7,I7,q7⟩:=q7;exact ⟨σ7,H7,I7.unpinned,q7⟩
  | ret v=>obtain ⟨x7,σ7,H7,I7,r7,q7⟩:=q7;exact ⟨x7,σ7,H7,I7.unpinned,r7,q7⟩
end
noncomputable abbrev R2:=V->V->Hp->VK->Prop
variable {r:R2}
noncomputable def OpR (X:Cx) (f:Value->Value->Sem Value) (r:R2):Prop:=
 ∀(pins:List (Addr×Obj)) (s:Shared) (σ:St) (H:Hp) (x y:V) (v u:Value) (Q:VK),Inv X pins σ H s->RelV x v->RelV y u->r x y H Q->
  wpAny (model X.prog X.w) X.A (f v u) (EP X pins σ Q) X.xe s
noncomputable def UnR (X:Cx) (f:Value->Sem Value) (r:V->Hp->VK->Prop):Prop:=
 ∀(pins:List (Addr×Obj)) (s:Shared) (σ:St) (H:Hp) (x:V) (v:Value) (Q:VK),Inv X pins σ H s->RelV x v->r x H Q->
  wpAny (model X.prog X.w) X.A (f v) (EP X pins σ Q) X.xe s
noncomputable def CallR (X:Cx) (f:Value) (r:List V->Hp->VK->Prop):Prop:=
 ∀(pins:List (Addr×Obj)) (s:Shared) (σ:St) (H:Hp) (xs:List V) (us:List Value) (Q:VK),Inv X pins σ H s->Vals xs us->r xs H Q->
  wpAny (model X.prog X.w) X.A (call f us) (EP X pins σ Q) X.xe s
noncomputable def tOp (r:R2) (ta tb:TE):TE:=λσ H Q=>ta σ H λx H1=>tb σ H1 λy H2=>r x y H2 Q
noncomputable def tUn (r:V->Hp->VK->Prop) (ta:TE):TE:=λσ H Q=>ta σ H λx H1=>r x H1 Q
noncomputable def rI (C:Int->Int->Prop) (g:Int->Int->V):R2:=λx y H Q=>∃i j,x=.int i/\y=.int j/\C i j/\Q (g i j) H
noncomputable def rI0 (g:Int->Int->V):R2:=λx y H Q=>∃i j,x=.int i/\y=.int j/\Q (g i j) H
noncomputable def rU (g:Int->V):V->Hp->VK->Prop:=λx H Q=>∃i,x=.int i/\Q (g i) H
section
variable {X:Cx} {a b c:Expr} {ta tb tc:TE} {pos:Pos}
theorem ZD2 (ha:PE X a ta) (hb:PE X b tb) {R:V->V->Hp->Prop} (I:Inv X pins σ H s)
  (h:ta σ H λx H1=>tb σ H1 λy H2=>R x y H2) {Q:Value->Shared->Prop} {f:Value->Value->Sem Value}
  (hf:∀v u s2 x y H2,Inv X pins σ H2 s2->RelV x v->RelV y u->R x y H2->wpAny (model X.prog X.w) X.A (f v u) Q X.xe s2):
  wpAny (model X.prog X.w) X.A (eval a X.env) (λv s₁=>wpAny (model X.prog X.w) X.A (eval b X.env) (λu s₂=>wpAny (model X.prog X.w) X.A (f v u) Q X.xe s₂) X.xe s₁) X.xe s:=by
 refine thn (ha pins s σ H _ I h) λv s1 ⟨x,H1,I1,r1,q1⟩=> ?_
 refine thn (hb pins s1 σ H1 _ I1 q1) λu s2 ⟨y,H2,I2,r2,q2⟩=> ?_
 exact hf v u s2 x y H2 I2 r1 r2 q2
theorem ZSX {op:Operator} (ho:OpR X (binaryOp op) r) (ha:PE X a ta) (hb:PE X b tb):PE X (.BinOp a op b pos) (tOp r ta tb):=by intro pins s σ H Q I h;exact wpAny_BinOp (ZD2 ha hb I h λv u s2 x y H2 I2 rx ry q=>ho pins s2 σ H2 x y v u Q I2 rx ry q)
theorem ZSI {op:UnaryOp} {r:V->Hp->VK->Prop} (ho:UnR X (unaryOp op) r) (ha:PE X a ta):PE X (.UnaryOp op a pos) (tUn r ta):=by intro pins s σ H Q I h;exact UnaryOp_ (thn (ha pins s σ H _ I h) λv s1 ⟨x,H1,I1,r1,q1⟩=>ho pins s1 σ H1 x v Q I1 r1 q1)
theorem opI {f:Value->Value->Sem Value} {C:Int->Int->Prop} {g:Int->Int->Int}
  (rule:∀(i j:Int) (t u:Tok) (s:Shared) (Q:Value->Shared->Prop) (E:Value->Shared->Prop),C i j->Q (.int (g i j) s.toks) {s with toks:=s.toks + 1}->wpAny (model X.prog X.w) X.A (f (.int i t) (.int j u)) Q E s):
  OpR X f (rI C λi j=>.int (g i j)):=by
 intro pins s σ H x y v u Q I rx ry h;obtain ⟨i,j,rfl,rfl,hc,q⟩:=h;obtain ⟨t,rfl⟩:=rx;obtain ⟨t',rfl⟩:=ry;exact rule i j t t' s _ _ hc ⟨.int (g i j),H,I.tok _,⟨_,rfl⟩,q⟩
theorem opI0 {f:Value->Value->Sem Value} {g:Int->Int->Int}
  (rule:∀(i j:Int) (t u:Tok) (s:Shared) (Q:Value->Shared->Prop) (E:Value->Shared->Prop),Q (.int (g i j) s.toks) {s with toks:=s.toks + 1}->wpAny (model X.prog X.w) X.A (f (.int i t) (.int j u)) Q E s):
  OpR X f (rI0 λi j=>.int (g i j)):=by
 intro pins s σ H x y v u Q I rx ry h;obtain ⟨i,j,rfl,rfl,q⟩:=h;obtain ⟨t,rfl⟩:=rx;obtain ⟨t',rfl⟩:=ry;exact rule i j t t' s _ _ ⟨.int (g i j),H,I.tok _,⟨_,rfl⟩,q⟩
theorem ZAu {f:Value->Value->Sem Value} {g:Int->Int->Bool}
  (rule:∀(i j:Int) (t u:Tok) (s:Shared) (Q:Value->Shared->Prop) (E:Value->Shared->Prop),Q (.bool (g i j)) s->wpAny (model X.prog X.w) X.A (f (.int i t) (.int j u)) Q E s):
  OpR X f (rI0 λi j=>.bl (g i j)):=by
 intro pins s σ H x y v u Q I rx ry h;obtain ⟨i,j,rfl,rfl,q⟩:=h;obtain ⟨t,rfl⟩:=rx;obtain ⟨t',rfl⟩:=ry;exact rule i j t t' s _ _ ⟨.bl (g i j),H,I,rfl,q⟩
noncomputable def CPow (i j:Int):Prop:=0<=j/\j<=1000000/\i.natAbs < 2 ^ 64
noncomputable def CMul (i j:Int):Prop:=(-(2 ^ 64) < i/\i < 2 ^ 64)∨(-(2 ^ 64) < j/\j < 2 ^ 64)
theorem CMul.ok {i j:Int} (h:CMul i j):IntMulOk i j:=by
 rcases h with ⟨h1,h2⟩ | ⟨h1,h2⟩
 ·exact .of_left (intBits_le_64 h1 h2)
 ·exact .of_right (intBits_le_64 h1 h2)
theorem ZR7:OpR X (binaryOp .Add) (rI0 λi j=>.int (i + j)):=opI0 λ_ _ _ _ _ _ _ q=>add_int q
theorem ZPh:OpR X (binaryOp .Sub) (rI0 λi j=>.int (i - j)):=opI0 λ_ _ _ _ _ _ _ q=>sub_int q
theorem ZMQ:OpR X (binaryOp .Mod) (rI (λ_ j=>0 < j) λi j=>.int (i % j)):=opI λi j _ _ _ _ _ hc q=>by have h1:(0:Int) < j:=hc;exact mod_int' (by lia) (by rw [Int.fmod_eq_emod_of_nonneg i (by lia)];exact q)
theorem ZRZ:OpR X (binaryOp .Pow) (rI CPow λi j=>.int (i ^ j.toNat)):=opI λ_ _ _ _ _ _ _ hc q=>pow_int_small hc.1 hc.2.1 hc.2.2 q
theorem unI {f:Value->Sem Value} {g:Int->Int}
  (rule:∀(i:Int) (t:Tok) (s:Shared) (Q:Value->Shared->Prop) (E:Value->Shared->Prop),Q (.int (g i) s.toks) {s with toks:=s.toks + 1}->wpAny (model X.prog X.w) X.A (f (.int i t)) Q E s):
  UnR X f (rU λi=>.int (g i)):=by
 intro pins s σ H x v Q I rx h;obtain ⟨i,rfl,q⟩:=h;obtain ⟨t,rfl⟩:=rx;exact rule i t s _ _ ⟨.int (g i),H,I.tok _,⟨_,rfl⟩,q⟩
theorem ZKh:UnR X (unaryOp .USub) (rU λi=>.int (-i)):=unI λ_ _ _ _ _ q=>neg_int q
end
section
variable {X:Cx} {a b c:Expr} {ta tb tc:TE} {pos:Pos}
theorem Wi {Q:VK} {k k':Bool} (I:Inv X pins σ H s) (q:Q (.bl k) H) (e:k=k'):EP X pins σ Q (.bool k') s:=by subst e;exact ⟨.bl k,H,I,rfl,q⟩
theorem ZON:OpR X (compareOp .Lt) (rI0 λi j=>.bl (decide (i < j))):=ZAu λ_ _ _ _ _ _ _ q=>lt_int q
theorem ZMg:OpR X (compareOp .LtE) (rI0 λi j=>.bl (decide (i<=j))):=ZAu λ_ _ _ _ _ _ _ q=>le_int q
theorem ZKY:OpR X (compareOp .Gt) (rI0 λi j=>.bl (decide (j < i))):=ZAu λ_ _ _ _ _ _ _ q=>gt_int q
theorem ZMW:OpR X (compareOp .GtE) (rI0 λi j=>.bl (decide (j<=i))):=ZAu λ_ _ _ _ _ _ _ q=>ge_int q
theorem ZPO:OpR X (compareOp .Lt) (λx y H Q=>∃i j,x=.str i/\y=.str j/\Q (.bl (decide (i.cps.toList < j.cps.toList))) H):=by intro pins s σ H x y v u Q I rx ry h;obtain ⟨i,j,rfl,rfl,q⟩:=h;obtain ⟨t,rfl⟩:=rx;obtain ⟨t',rfl⟩:=ry;exact lt_str (Wi I q rfl)
theorem ZRi:OpR X (compareOp .In) (λx y H Q=>∃i j,x=.str i/\y=.str j/\Q (.bl (!(Builtin.Str.occurrences j i 0 j.length 1).isEmpty)) H):=by intro pins s σ H x y v u Q I rx ry h;obtain ⟨i,j,rfl,rfl,q⟩:=h;obtain ⟨t,rfl⟩:=rx;obtain ⟨t',rfl⟩:=ry;exact in_str (Wi I q rfl)
theorem ZQN:OpR X (compareOp .Is) (λx y H Q=>y=.non/\Q (.bl (decide (x=.non))) H):=by
 intro pins s σ H x y v u Q I rx ry h;obtain ⟨rfl,q⟩:=h;cases ry;refine is_none_gen (Wi I q ?_)
 cases x <;> first
  | (cases rx;rfl)
  | (obtain ⟨t,rfl⟩:=rx;rfl)
theorem ZKW:OpR X (compareOp .IsNot) (λx y H Q=>y=.non/\Q (.bl (!decide (x=.non))) H):=by
 intro pins s σ H x y v u Q I rx ry h;obtain ⟨rfl,q⟩:=h;cases ry;refine isnot_none_gen (Wi I q ?_)
 cases x <;> first
  | (cases rx;rfl)
  | (obtain ⟨t,rfl⟩:=rx;rfl)
theorem OpR.or {f:Value->Value->Sem Value} {r':R2} (h:OpR X f r) (h':OpR X f r'):OpR X f (λx y H Q=>r x y H Q∨r' x y H Q):=by
 intro pins s σ H x y v u Q I rx ry q;rcases q with q | q
 ·exact h pins s σ H x y v u Q I rx ry q
 ·exact h' pins s σ H x y v u Q I rx ry q
theorem nomark (b:Expr) (h:op≠ .In:=by decide) (h2:op≠ .NotIn:=by decide):behindInMarks op b=false:=by
 have e1:(op == CmpOp.In)=false:=by cases op <;> first | rfl | exact absurd rfl h
 have e2:(op == CmpOp.NotIn)=false:=by cases op <;> first | rfl | exact absurd rfl h2
 cases b <;> simp [behindInMarks,e1,e2]
theorem ZNa (ho:OpR X (compareOp op) r) (ha:PE X a ta) (hb:PE X b tb) (hm:behindInMarks op b=false):PE X (.Compare a [op] [b] pos) (tOp r ta tb):=by intro pins s σ H Q I h;exact wpAny_Compare1 (ZD2 ha hb I h λv u s2 x y H2 I2 rx ry q=>ho pins s2 σ H2 x y v u Q I2 rx ry q) hm
noncomputable def T7 (t:TE):TT:=λσ H Q=>t σ H λx H'=>∃k,x=.bl k/\Q k H'
theorem ZOy (ho:OpR X (compareOp op) r) (ha:PE X a ta) (hb:PE X b tb) (hm:behindInMarks op b=false):PT X (.Compare a [op] [b] pos) (T7 (tOp r ta tb)):=by
 intro pins s σ H Q I h;refine wpAny_isTrue_Compare1 (thn (ha pins s σ H _ I h) λv s1 ⟨x,H1,I1,r1,q1⟩=>thn (hb pins s1 σ H1 _ I1 q1) λu s2 ⟨y,H2,I2,r2,q2⟩=>
  thn (ho pins s2 σ H2 x y v u _ I2 r1 r2 q2) λc s3 ⟨z,H3,I3,r3,k,e,q3⟩=> ?_) hm
 subst e;cases r3;exact wpAny_truthy_bool ⟨H3,I3,q3⟩
noncomputable def ZJQ (r r':R2) (ta tb tc:TE):TE:=λσ H Q=>ta σ H λx H1=>tb σ H1 λy H2=>r x y H2 λz H3=>∃k,z=.bl k/\
 (if k=true then tc σ H3 λw' H4=>r' y w' H4 Q else Q (.bl false) H3)
theorem ZPS {op':CmpOp} {r':R2} (ho:OpR X (compareOp op) r) (ho':OpR X (compareOp op') r') (ha:PE X a ta) (hb:PE X b tb) (hc:PE X c tc)
  (hm:lastMarks [op,op'] [b,c]=false:=by with_unfolding_all rfl):PT X (.Compare a [op,op'] [b,c] pos) (T7 (ZJQ r r' ta tb tc)):=by
 intro pins s σ H Q I h;refine isTrue_chain (thn (ha pins s σ H _ I h) λv s1 ⟨x,H1,I1,r1,q1⟩=>test_link (thn (hb pins s1 σ H1 _ I1 q1) λu s2 ⟨y,H2,I2,r2,q2⟩=>
  thn (ho pins s2 σ H2 x y v u _ I2 r1 r2 q2) λd s3 ⟨z,H3,I3,r3,k,e,q3⟩=> ?_)) hm
 subst e;cases r3;refine wpAny_truthy_bool ?_;cases k with
 | false=>
  obtain ⟨k',e',q'⟩:=q3;cases e';exact ite_ff ⟨H3,I3,q'⟩
 | true=>
  refine ite_tt (test_last (thn (hc pins s3 σ H3 _ I3 q3) λw' s4 ⟨z',H4,I4,r4,q4⟩=>thn (ho' pins s4 σ H4 y z' u w' _ I4 r2 r4 q4) λd' s5 ⟨z2,H5,I5,r5,k2,e2,q5⟩=> ?_));subst e2;cases r5;exact wpAny_truthy_bool ⟨H5,I5,q5⟩
theorem line63:(sizeLine:Nat) < 2 ^ 63:=by rw [sizeLine_eq];decide
theorem ZPe:OpR X (binaryOp .Add) (λx y H Q=>∃i j,x=.str i/\y=.str j/\i.length + j.length<=sizeLine/\Q (.str (i++j)) H):=by intro pins s σ H x y v u Q I rx ry h;obtain ⟨i,j,rfl,rfl,hz,q⟩:=h;obtain ⟨t,rfl⟩:=rx;obtain ⟨t',rfl⟩:=ry;exact add_str (λt' tk=>⟨.str (i++j),H,I.tok _,⟨_,rfl⟩,q⟩) hz
theorem ZRr:OpR X (inplaceOp .Add) (λx y H Q=>∃i j,x=.str i/\y=.str j/\i.length + j.length<=sizeLine/\Q (.str (i++j)) H):=by intro pins s σ H x y v u Q I rx ry h;obtain ⟨i,j,rfl,rfl,hz,q⟩:=h;obtain ⟨t,rfl⟩:=rx;obtain ⟨t',rfl⟩:=ry;exact iadd_str (λt' tk=>⟨.str (i++j),H,I.tok _,⟨_,rfl⟩,q⟩) hz
theorem vals1 {x:V} (r:Vals [x] us):∃u,us= [u]/\RelV x u:=by
 cases r with
 | cons r1 r2=>cases r2;exact ⟨_,rfl,r1⟩
theorem vals2 {x:V} (r:Vals [x,y] us):∃u w',us= [u,w']/\RelV x u/\RelV y w':=by
 cases r with
 | cons r1 r2=>
  cases r2 with
  | cons r3 r4=>cases r4;exact ⟨_,_,rfl,r1,r3⟩
theorem ZMR (hc:X.calm=true):CallR X (.builtin "max") (λxs H Q=>∃i j,xs= [.int i,.int j]/\Q (.int (if j > i then j else i)) H):=by
 intro pins s σ H xs us Q I r h;obtain ⟨i,j,rfl,q⟩:=h;obtain ⟨u,w',rfl,⟨t,rfl⟩,⟨t',rfl⟩⟩:=vals2 r;refine max_two_ints (I.ok.hd hc) λh' tk k=>⟨_,H,I.kept k,?_,q⟩
 by_cases hj:j > i
 ·rw [if_pos hj,if_pos hj];exact ⟨_,rfl⟩
 ·rw [if_neg hj,if_neg hj];exact ⟨_,rfl⟩
theorem ZKU (hc:X.calm=true):CallR X (.builtin "min") (λxs H Q=>∃i j,xs= [.int i,.int j]/\Q (.int (if j < i then j else i)) H):=by
 intro pins s σ H xs us Q I r h;obtain ⟨i,j,rfl,q⟩:=h;obtain ⟨u,w',rfl,⟨t,rfl⟩,⟨t',rfl⟩⟩:=vals2 r;refine min_two_ints (I.ok.hd hc) λh' tk k=>⟨_,H,I.kept k,?_,q⟩
 by_cases hj:j < i
 ·rw [if_pos hj,if_pos hj];exact ⟨_,rfl⟩
 ·rw [if_neg hj,if_neg hj];exact ⟨_,rfl⟩
theorem ZOU:CallR X (.type "int") (λxs H Q=>(∃i,xs= [.int i]/\Q (.int i) H)∨∃k,xs= [.bl k]/\Q (.int (if k then 1 else 0)) H):=by
 intro pins s σ H xs us Q I r h;rcases h with ⟨i,rfl,q⟩ | ⟨k,rfl,q⟩
 ·obtain ⟨u,rfl,t,rfl⟩:=vals1 r;exact call_int_int ⟨.int i,H,I,⟨_,rfl⟩,q⟩
 ·obtain ⟨u,rfl,r1⟩:=vals1 r;cases r1;exact call_int_bool ⟨.int (if k then 1 else 0),H,I.tok _,⟨_,rfl⟩,q⟩
end
structure ObjM (h:Heap) (x dx C:Addr) (mA:Str->Option Value):Prop where
 obj:h.get? x=some (PySem.W.instObj C dx)
 ns:h.Ns1 dx mA
 ne:dx≠x
theorem ZO6 {dx:Addr} {mA:Str->Option Value} (n:h.Ns1 dx mA):∃od,h.get? dx=some od/\∀name,PySem.W.lookIn name od=some (mA name):=by
 obtain ⟨o,es,ep,ho,hd,hk,_,hm⟩:=n;refine ⟨o,ho,λname=> ?_⟩;have e:=hm name;unfold nsFind findBy at e;rw [<-Array.find?_toList] at e;unfold PySem.W.lookIn;rw [hd];dsimp only;split
 ·rename_i y q;rw [q] at e;exact congrArg some e
 ·rename_i q;rw [q] at e
  have a:es.toList.any (·.refKey)=false:=by rw [List.any_eq_false];intro y hy;obtain ⟨z,t,hkey⟩:=hk y (Array.mem_toList_iff.mp hy);simp [DictEntry.refKey,hkey]
  have a':¬es.toList.any (·.refKey)=true:=by rw [a];exact Bool.false_ne_true
  rw [if_neg a'];exact congrArg some e
theorem ObjM.look {x dx:Addr} {mA:Str->Option Value} (I:ObjM h x dx C mA):∃od,PySem.W.InstAt h x (PySem.W.instObj C dx) C (some od)/\∀name,PySem.W.lookIn name od=some (mA name):=
 let ⟨od,ho,hl⟩:=ZO6 I.ns
 ⟨od,⟨I.obj,rfl,rfl,ho⟩,hl⟩
section
variable {prog:Program} {w:World} {A:Around} {E:Value->Shared->Prop} {s:Shared} {K:PySem.W.Frag} {x dx C f:Addr} {mA:Str->Option Value} {name:Str} {v:Value}
theorem ZNU {expr:Bool} (X:K.In s.heap) (I:ObjM s.heap x dx C mA) (hg:PySem.W.plainGet K C name=true) (hh:PySem.W.hasDictIn K C=true)
  (ha:PySem.W.findIn K (.ref C) name=some none) (hv:mA name=some v) (hv':PySem.W.handedIn v=true) (h:Q v {s with toks:=s.toks + 1}):
  wpAny (model prog w) A (getAttr (.ref x) name expr) Q E s:=by
 obtain ⟨od,J,hl⟩:=I.look;exact PySem.W.get_value X J (PySem.W.plainGet_of hg).1 (PySem.W.findObj_own hh ha rfl (by rw [hl,hv])) hv' h
theorem ZSa {pl:Sem Bool} {Q:Value×List Value->Shared->Prop} (X:K.In s.heap) (I:ObjM s.heap x dx C mA) (hg:PySem.W.plainGet K C name=true)
  (hf:PySem.W.findIn K (.ref C) name=some (some (.ref f))) (ht:PySem.W.isFn K (.ref f)=true) (hv:mA name=none) (h:Q (.ref f,[.ref x]) s):
  wpAny (model prog w) A (getMethod (.ref x) name pl) Q E s:=by
 obtain ⟨od,J,hl⟩:=I.look
 exact PySem.W.method_fn X J (PySem.W.plainGet_of hg).1 (PySem.W.plainGet_of hg).2 hf (beq_iff_eq.mp ht) (by show (PySem.W.lookIn name od).map (·.isSome)=some false;rw [hl,hv];rfl) h
theorem ZL4 {ns:List Str} {Q:Unit->Shared->Prop} (X:K.In s.heap) (I:ObjM s.heap x dx C mA)
  (hs:PySem.W.findIn K (.ref C) "__setattr__"=some (some (.builtin "object.__setattr__"))) (hp:PySem.W.plainOver K C=true) (ht:PySem.W.takerIn K C name=some none) (hh:PySem.W.hasDictIn K C=true)
  (hw:PySem.Within mA ns) (hsz:ns.length<=sizeLine)
  (h:∀h',ObjM h' x dx C (λy=>if y=name then some v else mA y)->Heap.SameBut dx s.heap h'->Q () {s with heap:=h',toks:=s.toks + 2}):
  wpAny (model prog w) A (setAttr (.ref x) name v) Q E s:=by
 obtain ⟨od,J,hl⟩:=I.look;refine PySem.W.set_plain X J hs (PySem.W.osa_open (s:={s with toks:=s.toks + 1}) (r:=none) X J hp ht λb=> ?_);obtain ⟨cd,hc,hd'⟩:=PySem.W.any_some hh;have hx:s.heap.get? x=some ⟨.ref C,some dx,.plain,#[]⟩:=I.obj;refine wpAny_bind (wpAny_pure (wpAny_bind (wpAny_bind (wpAny_loadPart hx (wpAny_bind (PySem.W.Looks.here (s:={s with toks:=s.toks + 1}) (PySem.W.looks_clsIn X hc) ?_))))))
 rw [hd'];refine wpAny_pure (a:=some dx) (wpAny_bind (wpAny_pure (wpAny_bind ?_)));refine wpAny_nsSet1 (s:={s with toks:=s.toks + 1}) I.ns λh' hn2 hs2=> ?_
 obtain ⟨oD,esD,epD,hoD,hdD,hcD⟩:=hn2.count (PySem.Within.cons name v hw);refine wpAny_bind (wpAny_lookBehind hoD (by rw [hdD];exact pastItsLine_dict (Nat.le_trans hcD (by rw [List.length_cons];lia))) ?_);exact wpAny_pure (h _ ⟨(hs2.2 _ (Ne.symm I.ne)).trans I.obj,hn2,I.ne⟩ hs2)
theorem ZQ3 {R:Result->Shared->Prop} {vs:List Value} (X:K.In s.heap) (hm:PySem.W.makesIn K C=true)
  (hi:PySem.W.findIn K (.ref C) "__init__"=some (some (.ref f))) (hf:PySem.W.typeIn K (.ref f)=some (.type "function"))
  (h:codeAny (model prog w) (A.under (.builtin "type.__call__" ⟨.ref C::vs,kw⟩)) (.call (.ref f) ⟨.ref (s.heap.objs.size + 1)::vs,kw⟩) (PySem.W.InitBack (s.heap.objs.size + 1) R)
   {s with heap:=(s.heap.push PySem.W.emptyDict).push (PySem.W.instObj C s.heap.objs.size)}):
  codeAny (model prog w) A (.call (.ref C) ⟨vs,kw⟩) R s:=by
 obtain ⟨hh,g,d,t,os⟩:=s;exact PySem.W.make_core (PySem.W.makes_of X hm) (PySem.W.looks_findIn X hi) (λself=>PySem.W.bind_fn X self hf) (.inl rfl) h
end
noncomputable def Fl (f:Str) (v:V):List (Str×V)->List (Str×V)
 | []=> [(f,v)]
 | (g,x)::r=>if g=f then (g,v)::r else (g,x)::Fl f v r
theorem ZJO (f g:Str) (v:V):∀fs:List (Str×V),(Fl f v fs).lookup g=if g=f then some v else fs.lookup g
 | []=>by
  show List.lookup g [(f,v)]=_;by_cases h:g=f
  ·have hb:(g == f)=true:=beq_iff_eq.mpr h;simp only [List.lookup,hb,if_pos h]
  ·have hb:(g == f)=false:=beq_eq_false_iff_ne.mpr h;simp only [List.lookup,hb,if_neg h]
 | (k,x)::r=>by
  have ih:=ZJO f g v r
  rw [show Fl f v ((k,x)::r)=(if k=f then (k,v)::r else (k,x)::Fl f v r) from rfl]
  by_cases hk:k=f
  ·rw [if_pos hk];by_cases h:g=k
   ·have hb:(g == k)=true:=beq_iff_eq.mpr h;simp only [List.lookup,hb,if_pos (h.trans hk)]
   ·have hb:(g == k)=false:=beq_eq_false_iff_ne.mpr h;simp only [List.lookup,hb,if_neg (λe:g=f=>h (e.trans hk.symm))]
  ·rw [if_neg hk];by_cases h:g=k
   ·have hb:(g == k)=true:=beq_iff_eq.mpr h;simp only [List.lookup,hb,if_neg (λe:g=f=>hk (h.symm.trans e))]
   ·have hb:(g == k)=false:=beq_eq_false_iff_ne.mpr h;simp only [List.lookup,hb];exact ih
theorem ZD5 (f:Str) (v:V):∀fs:List (Str×V),f∈(Fl f v fs).map (·.1)/\∀g,g∈fs.map (·.1)->g∈(Fl f v fs).map (·.1)
 | []=>⟨by simp [Fl],λg h=>by simp at h⟩
 | (k,x)::r=>by
  obtain ⟨i1,i2⟩:=ZD5 f v r
  rw [show Fl f v ((k,x)::r)=(if k=f then (k,v)::r else (k,x)::Fl f v r) from rfl]
  by_cases hk:k=f
  ·rw [if_pos hk];subst hk;exact ⟨by simp,λg h=>by simpa using h⟩
  ·rw [if_neg hk];refine ⟨?_,λg h=> ?_⟩
   ·rw [List.map_cons];exact List.mem_cons_of_mem _ i1
   ·rw [List.map_cons] at h ⊢;rcases List.mem_cons.mp h with e | e
    ·exact List.mem_cons.mpr (.inl e)
    ·exact List.mem_cons_of_mem _ (i2 g e)
theorem ZJy (f:Str) (v:V):∀fs:List (Str×V),(Fl f v fs).length<=fs.length + 1
 | []=>by simp [Fl]
 | (k,x)::r=>by
  have ih:=ZJy f v r
  rw [show Fl f v ((k,x)::r)=(if k=f then (k,v)::r else (k,x)::Fl f v r) from rfl]
  by_cases hk:k=f
  ·rw [if_pos hk,List.length_cons,List.length_cons];lia
  ·rw [if_neg hk,List.length_cons,List.length_cons];lia
theorem RelO.some_of {o:Option Value} (r:RelO (some v) o):∃u,o=some u/\RelV v u:=by
 cases o with
 | none=>exact (show False from r).elim
 | some u=>exact ⟨u,rfl,r⟩
theorem RelO.none_of {o:Option Value} (r:RelO none o):o=none:=by
 cases o with
 | none=>rfl
 | some u=>exact (show False from r).elim
theorem ZLH (r:RelV v u):PySem.W.handedIn u=true:=by
 cases v with
 | non=>cases (show u=Value.none from r);rfl
 | bl b=>cases (show u=Value.bool b from r);rfl
 | int i=>obtain ⟨t,e⟩:=(show∃t,u=Value.int i t from r);cases e;rfl
 | str x=>obtain ⟨t,e⟩:=(show∃t,u=Value.str x t from r);cases e;rfl
 | byt b=>obtain ⟨t,e⟩:=(show∃t,u=Value.bytes b t from r);cases e;rfl
 | flt b=>obtain ⟨t,e⟩:=(show∃t,u=Value.float b t from r);cases e;rfl
 | ref a=>cases (show u=Value.ref a from r);rfl
 | ty n=>cases (show u=Value.type n from r);rfl
section
variable {P:Program} {w:World} {H H':Hp} {h h':Heap} {a C dx:Addr} {fs fs':List (Str×V)}
theorem ZEM (hok:HOk P w H h) (e:H a=some (.ins C dx fs)):∃mA,ObjM h a dx C mA/\(∀f,RelO (fs.lookup f) (mA f))/\PySem.Within mA (fs.map (·.1))/\fs.length<=1000/\H dx=some (.own a):=by
 obtain ⟨d,z,ne,ob,mA,n,r,q⟩:=(show ObjOk P w H h a (.ins C dx fs) from hok a _ e)
 exact ⟨mA,⟨ob,n,ne⟩,r,q,z,d⟩
end
structure Cls (K:PySem.W.Frag) (C:Addr):Prop where
 pg:PySem.W.plainGet K C Str.empty=true
 hd:PySem.W.hasDictIn K C=true
 po:PySem.W.plainOver K C=true
 sa:PySem.W.findIn K (.ref C) "__setattr__"=some (some (.builtin "object.__setattr__"))
theorem Cls.get (c:Cls K C) (f:Str):PySem.W.plainGet K C f=true:=c.pg
noncomputable def NoAttr (K:PySem.W.Frag) (C:Addr) (f:Str):Prop:=PySem.W.findIn K (.ref C) f=some none
theorem NoAttr.taker {f:Str} (n:NoAttr K C f):PySem.W.takerIn K C f=some none:=by
 unfold PySem.W.takerIn
 rw [show PySem.W.findIn K (.ref C) f=some none from n]
 rfl
structure Meth (K:PySem.W.Frag) (C:Addr) (m:Str) (f:Addr):Prop where
 at_:PySem.W.findIn K (.ref C) m=some (some (.ref f))
 fn:PySem.W.isFn K (.ref f)=true
 kp:PySem.W.keepIn K (.ref f)=true
section
variable {X:Cx} {pins:List (Addr×Obj)} {σ:St} {H:Hp} {s:Shared} {a C dx:Addr} {fs:List (Str×V)} {f:Str} {v:V} {A:Around} {E:Value->Shared->Prop}
theorem ZM5 {b:Bool} (I:Inv X pins σ H s) (e:H a=some (.ins C dx fs)) (c:Cls X.K C) (n:NoAttr X.K C f) (l:fs.lookup f=some v)
  (h:∀u s',Inv X pins σ H s'->RelV v u->Q u s'):wpAny (model X.prog X.w) A (getAttr (.ref a) f b) Q E s:=by
 obtain ⟨mA,O,r,_,_,_⟩:=ZEM I.hok e;obtain ⟨u,hu,ru⟩:=RelO.some_of (v:=v) (o:=mA f) (by rw [<-l];exact r f);exact ZNU I.kIn O (c.get f) c.hd n hu (ZLH ru) (h u _ (I.tok _) ru)
theorem ZEI {m:Str} {g:Addr} {pl:Sem Bool} {Q:Value×List Value->Shared->Prop} (I:Inv X pins σ H s) (e:H a=some (.ins C dx fs)) (c:Cls X.K C) (k:Meth X.K C m g) (l:fs.lookup m=none)
  (h:Q (.ref g,[.ref a]) s):wpAny (model X.prog X.w) A (getMethod (.ref a) m pl) Q E s:=by
 obtain ⟨mA,O,r,_,_,_⟩:=ZEM I.hok e;have hn:mA m=none:=RelO.none_of (by rw [<-l];exact r m);exact ZSa I.kIn O (c.get m) k.at_ k.fn hn h
theorem ZQo {Q:Unit->Shared->Prop} (I:Inv X pins σ H s) (e:H a=some (.ins C dx fs)) (c:Cls X.K C) (n:NoAttr X.K C f) (hl:fs.length < 1000) (ry:RelV y u)
  (h:∀s',Inv X pins σ (upd H a (.ins C dx (Fl f y fs))) s'->Q () s'):wpAny (model X.prog X.w) A (setAttr (.ref a) f u) Q E s:=by
 obtain ⟨mA,O,r,wi,_,ho⟩:=ZEM I.hok e
 have hz:(fs.map (·.1)).length<=sizeLine:=by rw [List.length_map,sizeLine_eq];lia
 refine ZL4 I.kIn O c.sa c.po n.taker c.hd wi hz λh' O' sb=>h _ ?_
 have hd:∃o,h'.get? dx=some o:=let ⟨o,_,_,e',_⟩:=O'.ns;⟨o,e'⟩;refine I.write (x:=a) (e:=dx) (by rw [e];exact True.intro) (.inr ho) (λb q hb z=>(sb.2 b hb).trans z) hd ?_;refine ⟨by rw [Az O.ne];exact ho,?_,O.ne,O'.obj,_,O'.ns,λg=> ?_,λg hg=> ?_⟩
 ·have:=ZJy f y fs;lia
 ·show RelO ((Fl f y fs).lookup g) (if g=f then some u else mA g);rw [ZJO];by_cases q:g=f
  ·rw [if_pos q,if_pos q];exact ry
  ·rw [if_neg q,if_neg q];exact r g
 ·by_cases q:g=f
  ·rw [q];exact (ZD5 f y fs).1
  ·refine (ZD5 f y fs).2 g (wi g λz=>hg ?_);show (if g=f then some u else mA g)=none;rw [if_neg q];exact z
theorem Inv.made (I:Inv X pins σ H s):Inv X pins σ (upd (upd H s.heap.objs.size (.own (s.heap.objs.size + 1))) (s.heap.objs.size + 1) (.ins C s.heap.objs.size []))
  {s with heap:=(s.heap.push PySem.W.emptyDict).push (PySem.W.instObj C s.heap.objs.size)}:=by
 have e1:(s.heap.push PySem.W.emptyDict).get? s.heap.objs.size=some PySem.W.emptyDict:=Heap.get?_push_size s.heap rfl;have e2:((s.heap.push PySem.W.emptyDict).push (PySem.W.instObj C s.heap.objs.size)).get? (s.heap.objs.size + 1)=some (PySem.W.instObj C s.heap.objs.size):=by have:=Heap.get?_push_size (s.heap.push PySem.W.emptyDict) (o:=PySem.W.instObj C s.heap.objs.size) rfl;rwa [Heap.size_push] at this
 have e3:(s.heap.push PySem.W.emptyDict).Ns s.heap.objs.size (λ_=>none):=⟨PySem.W.emptyDict,#[],_,e1,rfl,(λe he=>absurd he (by simp)),λ_=>rfl⟩;have I1:=I.laid (a:=s.heap.objs.size) (o:=.own (s.heap.objs.size + 1)) (h':=s.heap.push PySem.W.emptyDict) (t':=s.toks) (λb u q=>Heap.get?_push_of_some _ q) (Nat.le_refl _) ⟨_,e1⟩;refine I1.laid (a:=s.heap.objs.size + 1) (o:=.ins C s.heap.objs.size []) (t':=s.toks) (λb u q=>Heap.get?_push_of_some _ q) (Nat.le_of_eq (Heap.size_push _ _)) ?_
 have ne:s.heap.objs.size≠s.heap.objs.size + 1:=Nat.ne_of_lt (Nat.lt_succ_self _);refine ⟨by rw [Az ne,Gg],Nat.zero_le _,ne,e2,λ_=>none,(Heap.Ns1.of_empty e3).at λo q=>Heap.get?_push_of_some _ q,λ_=>True.intro,λy hy=>absurd rfl hy⟩
theorem ZQE {prog:Program} {env:Env} {f:Str} {pos:Pos} (hb:attributeBase e f env (eval e env)=eval e env)
  (h:wpAny (model prog w) A (eval e env) (λo s₁=>wpAny (model prog w) A (getAttr o f true) Q E s₁) E s):wpAny (model prog w) A (eval (.Attribute e f pos) env) Q E s:=
 Attribute_any_ h (by rw [arm_eval_Attribute,hb])
end
noncomputable def tFld (K:PySem.W.Frag) (ta:TE) (f:Str):TE:=λσ H Q=>ta σ H λx H1=>∃a C dx fs v,x=.ref a/\H1 a=some (.ins C dx fs)/\Cls K C/\NoAttr K C f/\fs.lookup f=some v/\Q v H1
noncomputable def sFld (K:PySem.W.Frag) (ta tv:TE) (f:Str):TS:=λD σ H=>tv σ H λy H1=>ta σ H1 λx H2=>∃a C dx fs,x=.ref a/\H2 a=some (.ins C dx fs)/\Cls K C/\NoAttr K C f/\fs.length < 1000/\
 D.nx σ (upd H2 a (.ins C dx (Fl f y fs)))
section
variable {X:Cx} {o e value:Expr} {f:Str} {pos pos' tpos:Pos} {ta tv:TE}
theorem ZL8 (he:PE X e ta) (hb:attributeBase e f X.env (eval e X.env)=eval e X.env):PE X (.Attribute e f pos) (tFld X.K ta f):=by intro pins s σ H Q I h;refine ZQE hb (thn (he pins s σ H _ I h) λu s1 ⟨x,H1,I1,rx,a,C,dx,fs,v,ex,ea,c,n,l,q⟩=> ?_);subst ex;obtain rfl:u=Value.ref a:=rx;exact ZM5 I1 ea c n l λu' s2 I2 ru=>⟨v,H1,I2,ru,q⟩
theorem ZMl (ha:PE X o ta) (hv:PE X value tv) (hs:swapsWith value (some (.Attribute o f pos')) pos.line X.env=pure false):PS X (.Assign [.Attribute o f pos'] value pos) (sFld X.K ta tv f):=by intro pins s σ H D I h;refine plainObj_wpAny_Assign_Attribute (thn (hv pins s σ H _ I h) λu s1 ⟨y,H1,I1,ry,q⟩=>thn (ha pins s1 σ H1 _ I1 q) λov s2 ⟨x,H2,I2,rx,a,C,dx,fs,ex,ea,c,n,l,q2⟩=> ?_) hs;subst ex;obtain rfl:ov=Value.ref a:=rx;exact ZQo I2 ea c n l ry λs3 I3=>⟨σ,_,I3,q2⟩
theorem ZUV {pl:Sem Bool} {m:Str} {apos:Pos} {args:List Expr} (he:PE X e te) (I:Inv X pins σ H s)
  (h:te σ H λx H1=>∃a C dx fs g,x=.ref a/\H1 a=some (.ins C dx fs)/\Cls X.K C/\Meth X.K C m g/\fs.lookup m=none/\
   ∀s1,Inv X pins σ H1 s1->wpAny (model X.prog X.w) X.A (callWith pos (.ref g) [.ref a] (backTo pos (starEach args X.env)) (backToKw pos (keywordEach [] X.env))) Q X.xe s1)
  (ht:eval (.Call (.Attribute e m apos) args [] pos) X.env=(do
   let ov<-eval e X.env
   standAt apos.atName
   let (f,first)<-holding [ov] (getMethod ov m pl)
   callWith pos f first (backTo pos (starEach args X.env)) (backToKw pos (keywordEach [] X.env)))):
  wpAny (model X.prog X.w) X.A (eval (.Call (.Attribute e m apos) args [] pos) X.env) Q X.xe s:=by
 refine PySem.W.methodCall_KW (pl:=pl) (thn (he pins s σ H _ I h) λu s1 ⟨x,H1,I1,rx,a,C,dx,fs,g,ex,ea,c,k,l,q⟩=> ?_) ht;subst ex;obtain rfl:u=Value.ref a:=rx;exact ZEI I1 ea c k l (q s1 I1)
end
section
variable {X:Cx} {pins:List (Addr×Obj)} {σ:St} {H:Hp} {s:Shared} {A:Around} {E:Value->Shared->Prop} {Q:Value->Shared->Prop} {c:Value} {b:Bool}
end
structure Room (k:Nat) (A:Around):Prop where
 hd:A.handled=none
 dp:A.depth + 3 * k + 5 < recursionLimit
 un:A.units + 16 * k + 200 < cLine
theorem Room.mono {j:Nat} (r:Room k A) (h:j<=k):Room j A:=⟨r.hd,by have:=r.dp;lia,by have:=r.un;lia⟩
theorem Room.deeper (r:Room (k + 1) A) (env:Env):Room k (A.deeper env):=
 ⟨r.hd,by have:=r.dp;show A.depth + 1 + 3 * k + 5 < _;lia,by have:=r.un;show A.units + 3 + 16 * k + 200 < _;lia⟩
theorem ZP8:(A.under (.builtin "type.__call__" ⟨.ref C::us,kw⟩)).depth=A.depth + 1:=by
 first | rfl | simp [Around.under,Code.weight,Code.isCreation,Code.isGuard,Code.isCaller,Code.frames,Code.isFrame,guardIds]
theorem ZKi:(A.under (.builtin "type.__call__" ⟨.ref C::us,kw⟩)).units=A.units + 1:=by
 first | rfl | simp [Around.under,Code.cUnits,Code.frames,Code.isFrame]
theorem Room.make (r:Room (k + 1) A) (C:Addr) (us:List Value) (kw:List (Str×Value)):Room k (A.under (.builtin "type.__call__" ⟨.ref C::us,kw⟩)):=
 ⟨r.hd,by have:=r.dp;rw [ZP8];lia,by have:=r.un;rw [ZKi];lia⟩
theorem Room.depth (r:Room k A):A.depth < recursionLimit:=by have:=r.dp;lia
theorem Room.units (r:Room k A):A.units + 64 < cLine:=by have:=r.un;lia
noncomputable def tNil:TA:=λ_ H Q=>Q [] H
noncomputable def ZKs (ta:TE) (tr:TA):TA:=λσ H Q=>ta σ H λx H1=>tr σ H1 λxs H2=>Q (x::xs) H2
section
variable {X:Cx} {e:Expr} {es:List Expr} {te:TE} {t:TA} {pos:Pos}
theorem ZLZ:PA X [] tNil:=λ_ _ _ _ H Q I h=>Calls.spliced_nil ⟨[],H,I,.nil,h⟩
theorem ZLg (ha:PE X e te) (hr:PA X es t) (hs:starEach (e::es) X.env=(false,eval e X.env)::starEach es X.env:=by rfl):PA X (e::es) (ZKs te t):=by intro pos pins s σ H Q I h;rw [hs];show wpAny _ _ (spliced ((false,eval e X.env)::backTo pos (starEach es X.env))) _ _ s;refine Calls.spliced_cons (thn (ha pins s σ H _ I h) λu s1 ⟨x,H1,I1,r1,q1⟩=> ?_);exact thn (hr pos pins s1 σ H1 _ I1 q1) λus s2 ⟨xs,H2,I2,r2,q2⟩=>⟨x::xs,H2,I2,.cons r1 r2,q2⟩
noncomputable def tTup (t:TA):TE:=λσ H Q=>t σ H λxs H1=>xs.length<=sizeLine/\∀p,H1 p=none->Q (.ref p) (upd H1 p (.tup xs))
noncomputable def tLst (t:TA):TE:=λσ H Q=>t σ H λxs H1=>xs.length<=sizeLine/\∀p,H1 p=none->Q (.ref p) (upd H1 p (.lst xs))
theorem ZQk {x1} (h:PA X es t):PE X (.Tuple es x1 pos) (tTup t):=by intro pins s σ H Q I hq;refine wpAny_Tuple_spliced (thn (h pos pins s σ H _ I hq) λus s1 ⟨xs,H1,I1,r,z,q⟩=>⟨by rw [<-r.length];exact z,?_⟩);have hf:H1 s1.heap.objs.size=none:=I1.hok.fresh (Nat.le_refl _);refine ⟨.ref s1.heap.objs.size,upd H1 s1.heap.objs.size (.tup xs),I1.laid (t':=s1.toks) (λb u e=>Heap.get?_push_of_some _ e) (Nat.le_refl _) ?_,rfl,q _ hf⟩;exact ⟨z,us,r,⟨_,Heap.get?_push_size _ rfl,rfl,_,rfl⟩⟩
theorem ZNh (h:PA X es t):PE X (.List es pos) (tLst t):=by intro pins s σ H Q I hq;refine wpAny_List_spliced (thn (h pos pins s σ H _ I hq) λus s1 ⟨xs,H1,I1,r,z,q⟩=>⟨by rw [<-r.length];exact z,?_⟩);have hf:H1 s1.heap.objs.size=none:=I1.hok.fresh (Nat.le_refl _);refine ⟨.ref s1.heap.objs.size,upd H1 s1.heap.objs.size (.lst xs),I1.laid (t':=s1.toks) (λb u e=>Heap.get?_push_of_some _ e) (Nat.le_refl _) ?_,rfl,q _ hf⟩;exact ⟨z,us,0,r,Heap.get?_push_size _ rfl⟩
end
noncomputable abbrev Sp:=List V->Hp->VK->XK->Prop
noncomputable abbrev CXT:=List Env->Hp->Shared->XK->Value->Shared->Prop
structure Env0 (P:Program) (w:World) (K:PySem.W.Frag) (mg:Str->Option Value) (base:Heap) (A:Around) (outer:List Env) (s:Shared) (H:Hp):Prop where
 frames:A.frames=some outer
 mod:Mod K mg base
 bs:∀b o,base.get? b=some o->s.heap.get? b=some o/\H b=none
 bsz:base.objs.size<=s.heap.objs.size
 funs:s.heap.FunFrames base outer
 frf:∀b∈frs outer,H b=none
 hok:HOk P w H s.heap
 bare:AllBare s.gens
noncomputable def CE (outer:List Env) (P:Program) (w:World) (H:Hp) (s:Shared) (Q:VK) (u:Value) (s':Shared):Prop:=
 ∃v H',s'.os=s.os/\AllBare s'.gens/\Un (frs outer) [] H H' s.heap s'.heap/\HOk P w H' s'.heap/\RelV v u/\Q v H'
noncomputable def CR (CX:CXT) (outer:List Env) (P:Program) (w:World) (H:Hp) (s:Shared) (Q:VK) (E:XK) (r:Result) (s':Shared):Prop:=
 match r with
 | .ok (.ret u)=>CE outer P w H s Q u s'
 | .ok _=>False
 | .error e=>CX outer H s E e s'
structure FnOk (P:Program) (w:World) (K:PySem.W.Frag) (mg:Str->Option Value) (base:Heap) (CX:CXT) (k:Nat) (f:Addr) (fd:FuncData) (ps:List Str) (sp:Sp):Prop where
 len:∀vs H Q E,sp vs H Q E->vs.length=ps.length
 run:∀(A:Around) (outer:List Env) (s:Shared) (H:Hp) (args:Args) (us:List Value) (vs:List V) (Q:VK) (E:XK),Room k A->Env0 P w K mg base A outer s H->BindsTo s fd args (ps.zip us)->Vals vs us->sp vs H Q E->
  codeAny (model P w) A (.call (.ref f) args) (CR CX outer P w H s Q E) s
theorem Env0.make {outer:List Env} (e:Env0 P w K mg base A outer s H) (C:Addr) (us:List Value) (kw:List (Str×Value)):
  Env0 P w K mg base (A.under (.builtin "type.__call__" ⟨.ref C::us,kw⟩)) outer s H:=⟨by first | exact e.frames | (simpa [Around.under,Code.envs,Code.isFrame,pushEnvs] using e.frames),e.mod,e.bs,e.bsz,e.funs,e.frf,e.hok,e.bare⟩
section
variable {X:Cx} {pins:List (Addr×Obj)} {σ:St} {H:Hp} {s s':Shared}
theorem Inv.env0 (I:Inv X pins σ H s):Env0 X.prog X.w X.K X.mg X.base X.A X.stack s H:=
 ⟨I.ok.frames,I.ok.mod,I.bs,Nat.le_trans I.ok.bsz I.sz,I.stack,I.ZG8,I.hok,I.bare⟩
theorem Inv.after {Q:VK} (I:Inv X pins σ H s) (h:CE X.stack X.prog X.w H s Q u s'):EP X pins σ Q u s':=by obtain ⟨v,H',os,bare,un,hok,r,q⟩:=h;obtain ⟨hh,g,d,t,os'⟩:=s';obtain rfl:os'=s.os:=os;exact ⟨v,H',I.call (h':=hh) (g':=g) (d':=d) (t':=t) (ch:= []) un hok bare (λb z=>absurd z (by simp)),r,q⟩
end
noncomputable def ZOF (sp:Sp) (dvs:List V) (E:XK) (t:TA):TE:=λσ H Q=>t σ H λvs H1=>sp (vs++dvs) H1 Q E
noncomputable def ZDo (C:Addr) (m:Str) (sp:Sp) (dvs:List V) (E:XK) (ta:TE) (t:TA):TE:=λσ H Q=>ta σ H λx H1=>∃a dx fs,x=.ref a/\H1 a=some (.ins C dx fs)/\fs.lookup m=none/\
 t σ H1 λvs H2=>sp (x::(vs++dvs)) H2 Q E
noncomputable def ZOC (C:Addr) (sp:Sp) (dvs:List V) (E:XK) (t:TA):TE:=λσ H Q=>t σ H λvs H1=>∀x dx,H1 x=none->H1 dx=none->dx≠x->
 sp (.ref x::(vs++dvs)) (upd (upd H1 dx (.own x)) x (.ins C dx [])) (λv H2=>v=.non/\Q (.ref x) H2) E
noncomputable def Binds (K:PySem.W.Frag) (fd:FuncData) (ps:List Str) (ds:List Value):Prop:=
 ∀(s:Shared) (us:List Value),K.In s.heap->(us++ds).length=ps.length->BindsTo s fd ⟨us,[]⟩ (ps.zip (us++ds))
theorem Binds.all {fd:FuncData} {ps:List Str} (h:∀us:List Value,us.length=ps.length->bindArgs fd ⟨us,[]⟩=pure (ps.zip us)):Binds K fd ps []:=λs us _ hl=>by rw [List.append_nil] at hl ⊢;exact .of_eq (h us hl)
noncomputable def Passes (CX:CXT) (X:Cx) (E:XK):Prop:=∀(pins:List (Addr×Obj)) (σ:St) (H:Hp) (s:Shared) (e:Value) (s':Shared),Inv X pins σ H s->CX X.stack H s E e s'->X.xe e s'
section
variable {X:Cx} {CX:CXT} {k:Nat} {f C:Addr} {fd:FuncData} {ps:List Str} {sp:Sp} {dvs:List V} {ds:List Value} {E:XK} {x m:Str} {p pos apos:Pos} {e o:Expr} {es:List Expr} {ta:TE} {t:TA}
theorem ZDy {Q:VK} (F:FnOk X.prog X.w X.K X.mg X.base CX k f fd ps sp) (hr:Room k X.A) (hb:Binds X.K fd ps ds) (hd:Vals dvs ds) (hx:Passes CX X E)
  (I:Inv X pins σ H s) (r:Vals vs us) (h:sp (vs++dvs) H Q E):wpAny (model X.prog X.w) X.A (call (.ref f) us) (EP X pins σ Q) X.xe s:=by
 have r2:Vals (vs++dvs) (us++ds):=r.append hd;have hl:(us++ds).length=ps.length:=by rw [<-r2.length];exact F.len _ _ _ _ h
 refine wpAny_call (codeAny_mono (F.run X.A X.stack s H ⟨us,[]⟩ (us++ds) (vs++dvs) Q E hr I.env0 (hb s us I.kIn hl) r2 h) λr s' hq=> ?_);cases r with
 | error e=>exact hx pins σ H s e s' I hq
 | ok fl=>
  cases fl with
  | ret u=>exact I.after hq
  | next=>exact False.elim hq
  | brk=>exact False.elim hq
  | cont=>exact False.elim hq
theorem ZKH (F:FnOk X.prog X.w X.K X.mg X.base CX k f fd ps sp) (hr:Room k X.A) (hg:Gl X x) (hm:X.mg x=some (.ref f)) (hk:PySem.W.keepIn X.K (.ref f)=true) (hb:Binds X.K fd ps ds) (hd:Vals dvs ds) (hx:Passes CX X E)
  (ha:PA X (e::es) t) (hdb:(x == ("__debug__":Str))=false:=by decide) (he:starEach (e::es) X.env=(false,eval e X.env)::starEach es X.env:=by rfl) (hpl:(backTo pos (starEach es X.env)).any (·.1)=false:=by rfl):
  PE X (.Call (.Name x p) (e::es) [] pos) (ZOF sp dvs E t):=by
 intro pins s σ H Q I h;refine wpAny_Call_Name_kw (ZCy I hg hm ?_ hdb);refine PySem.W.callWith_K (h₀:=X.base) I.ok.mod.kin hk (thn (ha pos pins s σ H _ I h) λus s1 ⟨vs,H1,I1,r,q⟩=>⟨I1.kIn,?_⟩) he hpl;exact ZDy F hr hb hd hx I1 r q
theorem ZO2 {pl:Sem Bool} (he:PE X o ta) (c:Cls X.K C) (hm:Meth X.K C m f) (F:FnOk X.prog X.w X.K X.mg X.base CX k f fd ps sp) (hr:Room k X.A) (hb:Binds X.K fd ps ds) (hd:Vals dvs ds) (hx:Passes CX X E) (ha:PA X (e::es) t)
  (hst:starEach (e::es) X.env=(false,eval e X.env)::starEach es X.env:=by rfl) (hpl:(backTo pos (starEach es X.env)).any (·.1)=false:=by rfl)
  (ht:eval (.Call (.Attribute o m apos) (e::es) [] pos) X.env=(do
   let ov<-eval o X.env
   standAt apos.atName
   let (f,first)<-holding [ov] (getMethod ov m pl)
   callWith pos f first (backTo pos (starEach (e::es) X.env)) (backToKw pos (keywordEach [] X.env))):=by rfl):
  PE X (.Call (.Attribute o m apos) (e::es) [] pos) (ZDo C m sp dvs E ta t):=by
 intro pins s σ H Q I h;refine PySem.W.methodCall_KW (pl:=pl) (thn (he pins s σ H _ I h) λu s1 ⟨x,H1,I1,rx,a,dx,fs,ex,ea,l,q⟩=> ?_) ht;subst ex;obtain rfl:u=Value.ref a:=rx;refine ZEI I1 ea c hm l ?_
 refine PySem.W.callWith_K (first:= [.ref a]) (h₀:=X.base) I.ok.mod.kin hm.kp (thn (ha pos pins s1 σ H1 _ I1 q) λus s2 ⟨vs,H2,I2,r,q2⟩=>⟨I2.kIn,?_⟩) hst hpl
 exact ZDy (us:=.ref a::us) (vs:=.ref a::vs) F hr hb hd hx I2 (.cons rfl r) q2
theorem ZP3 {pl:Sem Bool} (he:PE X o ta) (c:Cls X.K C) (hm:Meth X.K C m f) (F:FnOk X.prog X.w X.K X.mg X.base CX k f fd ps sp) (hr:Room k X.A) (hb:Binds X.K fd ps ds) (hd:Vals dvs ds) (hx:Passes CX X E)
  (ht:eval (.Call (.Attribute o m apos) [] [] pos) X.env=(do
   let ov<-eval o X.env
   standAt apos.atName
   let (f,first)<-holding [ov] (getMethod ov m pl)
   callWith pos f first (backTo pos (starEach [] X.env)) (backToKw pos (keywordEach [] X.env))):=by rfl):
  PE X (.Call (.Attribute o m apos) [] [] pos) (ZDo C m sp dvs E ta tNil):=by
 intro pins s σ H Q I h;refine PySem.W.methodCall_KW (pl:=pl) (thn (he pins s σ H _ I h) λu s1 ⟨x,H1,I1,rx,a,dx,fs,ex,ea,l,q⟩=> ?_) ht;subst ex;obtain rfl:u=Value.ref a:=rx;refine ZEI I1 ea c hm l ?_
 exact PySem.W.callWith_K0 (first:= [.ref a]) I1.kIn hm.kp (ZDy (us:= [.ref a]) (vs:= [.ref a]) F hr hb hd hx I1 (.cons rfl .nil) q)
structure Mk (K:PySem.W.Frag) (C f:Addr):Prop where
 makes:PySem.W.makesIn K C=true
 init:PySem.W.findIn K (.ref C) "__init__"=some (some (.ref f))
 fn:PySem.W.isFn K (.ref f)=true
 kp:PySem.W.keepIn K (.ref C)=true
theorem ZP9 {Q:VK} (M:Mk X.K C f) (F:FnOk X.prog X.w X.K X.mg X.base CX k f fd ps sp) (hr:Room (k + 1) X.A) (hb:Binds X.K fd ps ds) (hd:Vals dvs ds)
  (hx:Passes CX X E) (I:Inv X pins σ H s) (r:Vals vs us)
  (h:∀x dx,H x=none->H dx=none->dx≠x->sp (.ref x::(vs++dvs)) (upd (upd H dx (.own x)) x (.ins C dx [])) (λv H2=>v=.non/\Q (.ref x) H2) E):
  wpAny (model X.prog X.w) X.A (call (.ref C) us) (EP X pins σ Q) X.xe s:=by
 have hq:=h (s.heap.objs.size + 1) s.heap.objs.size (I.hok.fresh (Nat.le_succ _)) (I.hok.fresh (Nat.le_refl _)) (Nat.ne_of_lt (Nat.lt_succ_self _));have I2:=Inv.made (C:=C) I;have r2:Vals (V.ref (s.heap.objs.size + 1)::(vs++dvs)) (Value.ref (s.heap.objs.size + 1)::(us++ds)):=.cons rfl (r.append hd);have hl:(Value.ref (s.heap.objs.size + 1)::us++ds).length=ps.length:=by have e:=r2.length;rw [F.len _ _ _ _ hq] at e;exact e.symm
 refine wpAny_call (ZQ3 (f:=f) I.kIn M.makes M.init (beq_iff_eq.mp M.fn) (codeAny_mono (F.run _ X.stack _ _ ⟨Value.ref (s.heap.objs.size + 1)::us,[]⟩ (Value.ref (s.heap.objs.size + 1)::(us++ds)) _ _ E (hr.make C us [])
  (I2.env0.make C us []) (hb _ (Value.ref (s.heap.objs.size + 1)::us) I2.kIn hl) r2 hq) λr s' hq'=> ?_))
 cases r with
 | error e=>exact hx pins σ _ _ e s' I2 hq'
 | ok fl=>
  cases fl with
  | ret u=>
   obtain ⟨v,H',I3,rv,ev,q3⟩:=I2.after hq';subst ev;exact ⟨rv,⟨V.ref (s.heap.objs.size + 1),H',I3,rfl,q3⟩⟩
  | next=>exact False.elim hq'
  | brk=>exact False.elim hq'
  | cont=>exact False.elim hq'
theorem ZPt (M:Mk X.K C f) (F:FnOk X.prog X.w X.K X.mg X.base CX k f fd ps sp) (hr:Room (k + 1) X.A) (hg:Gl X x) (hm:X.mg x=some (.ref C)) (hb:Binds X.K fd ps ds) (hd:Vals dvs ds) (hx:Passes CX X E)
  (ha:PA X (e::es) t) (hdb:(x == ("__debug__":Str))=false:=by decide) (he:starEach (e::es) X.env=(false,eval e X.env)::starEach es X.env:=by rfl) (hpl:(backTo pos (starEach es X.env)).any (·.1)=false:=by rfl):
  PE X (.Call (.Name x p) (e::es) [] pos) (ZOC C sp dvs E t):=by
 intro pins s σ H Q I h;refine wpAny_Call_Name_kw (ZCy I hg hm ?_ hdb);refine PySem.W.callWith_K (h₀:=X.base) I.ok.mod.kin M.kp (thn (ha pos pins s σ H _ I h) λus s1 ⟨vs,H1,I1,r,q⟩=>⟨I1.kIn,?_⟩) he hpl;exact ZP9 M F hr hb hd hx I1 r q
end
section
variable {X:Cx} {CX:CXT} {k:Nat} {f C:Addr} {fd:FuncData} {ps ks:List Str} {sp:Sp} {E:XK} {x m:Str} {p pos apos kpos:Pos} {e o:Expr} {es:List Expr} {kws:List Keyword} {te ta:TE} {t tk:TA} {nm:Option Str}
variable {g:List Value->List Value->List Value} {gV:List V->List V->List V}
end
structure FnScope (N P:List Str) (sc:Scope):Prop where
 kind:sc.kind=.function
 co:sc.isCoroutine=false
 gen:sc.isGenerator=false
 nd:N.Nodup
 pre:N.take P.length=P
 par:∀x∈P,sc.names.lookup x=some .local∨sc.names.lookup x=some .cell
 nofree:∀y∈sc.names,y.2≠ .free
theorem ZHc:∀{binds:List (Str×Value)} {m:Str->Option Value},(∀v,(x,v) ∉ binds)->bindL kindOf binds m x=m x
 | [],_,_=>rfl
 | (n,v)::r,m,h=>by
  unfold bindL;rw [ZHc λw hw=>h w (List.mem_cons_of_mem _ hw)];split
  ·have:x≠n:=by rintro rfl;exact h v List.mem_cons_self
   simp [this]
  ·rfl
theorem ZGB:∀{binds:List (Str×Value)} {m:Str->Option Value},(∀v,(x,v) ∉ binds)->bindC kindOf binds m x=m x
 | [],_,_=>rfl
 | (n,v)::r,m,h=>by
  unfold bindC;rw [ZGB λw hw=>h w (List.mem_cons_of_mem _ hw)];split
  ·rfl
  ·have:x≠n:=by rintro rfl;exact h v List.mem_cons_self
   simp [this]
theorem ZIs {v:Value}:∀{P:List Str} {vs:List Value} {i:Nat} {m:Str->Option Value},P.Nodup->P[i]? =some x->vs[i]? =some v->kindOf x=some .local->
  bindL kindOf (P.zip vs) m x=some v
 | [],_,_,_,_,h,_,_=>by simp at h
 | _::_,[],_,_,_,_,h,_=>by simp at h
 | p::P,w::vs,0,m,nd,h1,h2,hk=>by simp at h1 h2;subst h1;subst h2;show bindL kindOf ((p,w)::P.zip vs) m p=_;unfold bindL;rw [ZHc λv hv=>(List.nodup_cons.mp nd).1 (List.of_mem_zip hv).1,if_pos hk];simp
 | p::P,w::vs,i + 1,m,nd,h1,h2,hk=>by show bindL kindOf ((p,w)::P.zip vs) m x=_;unfold bindL;exact ZIs (i:=i) (List.nodup_cons.mp nd).2 (by simpa using h1) (by simpa using h2) hk
theorem ZGf {v:Value}:∀{P:List Str} {vs:List Value} {i:Nat} {m:Str->Option Value},P.Nodup->P[i]? =some x->vs[i]? =some v->kindOf x≠some .local->
  bindC kindOf (P.zip vs) m x=some v
 | [],_,_,_,_,h,_,_=>by simp at h
 | _::_,[],_,_,_,_,h,_=>by simp at h
 | p::P,w::vs,0,m,nd,h1,h2,hk=>by simp at h1 h2;subst h1;subst h2;show bindC kindOf ((p,w)::P.zip vs) m p=_;unfold bindC;rw [ZGB λv hv=>(List.nodup_cons.mp nd).1 (List.of_mem_zip hv).1,if_neg hk];simp
 | p::P,w::vs,i + 1,m,nd,h1,h2,hk=>by show bindC kindOf ((p,w)::P.zip vs) m x=_;unfold bindC;exact ZGf (i:=i) (List.nodup_cons.mp nd).2 (by simpa using h1) (by simpa using h2) hk
noncomputable def start (N:List Str) (vs:List V):St:=vs.map some++List.replicate (N.length - vs.length) none
noncomputable def Nq (CX:CXT) (P:Program) (w:World) (K:PySem.W.Frag) (mg:Str->Option Value) (base:Heap) (N:List Str) (qual:Str) (scope:Scope) (f:Addr) (cd:Value) (A:Around) (outer:List Env) (s:Shared) (H:Hp) (E:XK):Cx where
 prog:=P
 w:=w
 K:=K
 mg:=mg
 base:=base
 A:=A.deeper (envOfC qual scope s.heap.objs.size f cd)
 N:=N
 s₀:=s
 H₀:=H
 env:=envOfC qual scope s.heap.objs.size f cd
 outer:=outer
 stack:=envOfC qual scope s.heap.objs.size f cd::outer
 ex:= []
 calm:=true
 fn:=λ_=>true
 pn:= []
 xe:=λe s'=>wpAny (model P w) (A.deeper (envOfC qual scope s.heap.objs.size f cd)) (leaving (envOfC qual scope s.heap.objs.size f cd) e) (λ_ s''=>CX outer H s E e s'') (λe' s''=>CX outer H s E e' s'') s'
theorem ZJn {sc:Scope} {n:Nat} (h:sc.names.lookup x=some .cell):∃c,(cellsFrom n sc.names []).lookup x=some c:=by have q:=PySem.W.cellsFrom_some sc.names n [] (.inl h);exact Option.isSome_iff_exists.mp q
theorem ZLK {CX:CXT} {N ps:List Str} {qual:Str} {scope:Scope} {f:Addr} {cd:Value} {outer:List Env} {s1:Shared} {E:XK} 
  (S:FnScope N ps scope) (hd:A.handled=none) (e0:Env0 P w K mg base A outer s H) (hl:vs.length=ps.length) (r:Vals vs us)
  (x:InCallC s s.heap.objs.size (bindL (envOfC qual scope s.heap.objs.size f cd).kindOf (ps.zip us) λ_=>none) (cellsFrom (s.heap.objs.size + 1) scope.names []) (bindC (envOfC qual scope s.heap.objs.size f cd).kindOf (ps.zip us) λ_=>none) s1):
  Inv (Nq CX P w K mg base N qual scope f cd A outer s H E) [] (start N vs) H s1:=by
 have hpl:ps.length<=N.length:=by have:=congrArg List.length S.pre;rw [List.length_take] at this;lia
 obtain ⟨h1,tk,rfl,hk⟩:=x.done
 have noA:∀b:Addr,b ∉ (Nq CX P w K mg base N qual scope f cd A outer s H E).ex:=λb z=>absurd (show b∈([]:List Addr) from z) (by simp)
 refine ⟨⟨e0.mod,S.kind,rfl,rfl,Nat.le_refl _,λy z c h1 h2=> ?_,λy hy=> ?_,λy c _ h=> ?_,λ_=>hd,Around.frames_deeper e0.frames,.inr ⟨rfl,rfl⟩,λb z=>absurd z (noA b),e0.bs,e0.bsz,λb _ _=>noA b,λb z=>absurd z (noA b),e0.funs,e0.frf⟩,
  rfl,e0.bare,Un.kept hk,⟨_,x.toInCall.ns,λi y v h1 h2 h3=> ?_⟩,λy c h=>⟨_,x.cell y c h⟩,e0.hok.fresh (Nat.le_refl _),λy c h=> ?_,λp hp=>absurd (show p∈([]:List (Addr×Obj)) from hp) (by simp),e0.hok.kept hk,?_⟩
 ·exact name_of_addr x.apart (PySem.mem_of_lookup h1) (PySem.mem_of_lookup h2)
 ·have hy:scope.names.lookup y=some .cell∨scope.names.lookup y=some .free:=hy;rcases hy with hy | hy
  ·exact ZJn hy
  ·exact absurd rfl (S.nofree _ (PySem.mem_of_lookup hy))
 ·exact Nat.le_of_lt (x.above y c (PySem.mem_of_lookup h))
 ·have hi:i < vs.length:=by
   unfold start at h2;by_cases hi:i < vs.length
   ·exact hi
   ·rw [List.getElem?_append_right (by simpa using hi)] at h2;rw [List.getElem?_replicate] at h2
    split at h2 <;> cases h2
  have ha:vs[i]? =some v:=by
   unfold start at h2;rw [List.getElem?_append_left (by simpa using hi),List.getElem?_map] at h2;cases e:vs[i]? with
   | none=>rw [e] at h2;cases h2
   | some a=>rw [e] at h2;cases h2;rfl
  obtain ⟨u,hu,rv⟩:=r.get ha;have hp:ps[i]? =some y:=by rw [<-S.pre,List.getElem?_take_of_lt (by lia)];exact h1
  have ndP:ps.Nodup:=by rw [<-S.pre];exact S.nd.sublist (List.take_sublist _ _)
  refine ⟨u,rv,?_⟩;rcases S.par y (List.mem_of_getElem? hp) with k | k
  ·exact .inl ⟨k,ZIs ndP hp hu k⟩
  ·obtain ⟨c,e⟩:=ZJn (n:=s.heap.objs.size + 1) k;refine .inr ⟨.inl k,c,e,?_⟩;have q:=x.cell y c e;rw [ZGf ndP hp hu (by show scope.names.lookup y≠_;rw [k];decide)] at q;exact q
 ·exact e0.hok.fresh (Nat.le_of_lt (x.above y c (PySem.mem_of_lookup h)))
 ·unfold start;show _=N.length;rw [List.length_append,List.length_map,List.length_replicate];lia
theorem ZRS {CX:CXT} {f:Addr} {name qual:Str} {params:Arguments} {scope:Scope} {dV kV doc pm cdv ct oc:Value} {an od:Option Addr}
  {osl:Array (Option Value)} {N ps:List Str} {sp:Sp} (lk:K.lookup f=some ⟨oc,od,.func (PySem.W.fnOf name qual params body scope dV kV doc pm an cdv ct),osl⟩) (hcd:PySem.W.codeIn K cdv qual=true) (S:FnScope N ps scope)
  (len:∀vs H Q E,sp vs H Q E->vs.length=ps.length)
  (hbody:∀(A:Around) (outer:List Env) (s:Shared) (H:Hp) (vs:List V) (Q:VK) (E:XK),Room k (A.deeper (envOfC qual scope s.heap.objs.size f cdv))->sp vs H Q E->
   ∃t,PSs (Nq CX P w K mg base N qual scope f cdv A outer s H E) body t/\t {nx:=λ_ H'=>Q .non H',rt:=Q} (start N vs) H):
  FnOk P w K mg base CX (k + 1) f (PySem.W.fnOf name qual params body scope dV kV doc pm an cdv ct) ps sp:=by
 refine ⟨len,λA outer s H args us vs Q E hr e0 hb r hsp=> ?_⟩;have hl:=len _ _ _ _ hsp;have KX:K.In s.heap:=e0.mod.kin.keeps λb o e=>(e0.bs b o e).1
 have lim:s.heap.NoLimit:=e0.mod.nolimit.keeps λb o e=>(e0.bs b o e).1
 have hkind:∀y∈ps.zip us,scope.names.lookup y.1=some .local∨(scope.names.lookup y.1=some .cell/\((cellsFrom (s.heap.objs.size + 1) scope.names []).lookup y.1).isSome=true):=λ⟨n,v⟩ hy=>by
  rcases S.par n (List.of_mem_zip hy).1 with q | q
  ·exact .inl q
  ·exact .inr ⟨q,PySem.W.cellsFrom_some _ _ _ (.inl q)⟩
 refine codeAny_call_function hr.depth (KX _ _ lk) rfl S.co S.gen rfl (PySem.W.codeRec_of KX hcd) (hb _ _ _ _ ?_);refine wpAny_newFunctionEnv_cells S.kind hkind λenv he s1 x=> ?_
 subst he;refine ⟨lim.keeps x.toInCall.keep,codeAny_func ?_⟩;obtain ⟨t,ht,hq⟩:=hbody A outer s H vs Q E (hr.deeper _) hsp;have I:Inv (Nq CX P w K mg base N qual scope f cdv A outer s H E) [] (start N vs) H s1:=ZLK S hr.hd e0 hl r x;refine wpAny_mono (ht [] s1 (start N vs) H _ I hq) (λfl s' hs=> ?_) λe s' hs=>hs
 have fin:∀{σ':St} {H':Hp} {v:V} {u:Value},Inv (Nq CX P w K mg base N qual scope f cdv A outer s H E) [] σ' H' s'->RelV v u->Q v H'->CE outer P w H s Q u s':=
  λ{σ' H' v u} J rv q=>⟨v,H',J.os,J.bare,J.base,J.hok,rv,q⟩
 cases fl with
 | ret u=>
  obtain ⟨v,σ',H',J,rv,q⟩:=hs;exact fin J rv q
 | next=>
  obtain ⟨σ',H',J,q⟩:=hs;exact fin (v:=V.non) (u:=Value.none) J rfl q
 | brk=>
  obtain ⟨_,_,_,q⟩:=hs;exact False.elim q
 | cont=>
  obtain ⟨_,_,_,q⟩:=hs;exact False.elim q
section
variable {X:Cx} {x:Str} {p pos:Pos} {e:Expr} {es:List Expr} {t:TA} {id T:String} {r:List V->Hp->VK->Prop}
noncomputable def tCB (r:List V->Hp->VK->Prop) (t:TA):TE:=λσ H Q=>t σ H λvs H1=>r vs H1 Q
theorem ZPq (hc:CallR X (.builtin id) r) (hg:Gl X x) (hm:X.mg x=none) (hv:bootBuiltins x=some (.builtin id)) (ha:PA X (e::es) t) (hn:x≠"__name__":=by decide) (hdb:(x == ("__debug__":Str))=false:=by decide)
  (he:starEach (e::es) X.env=(false,eval e X.env)::starEach es X.env:=by rfl) (hpl:(backTo pos (starEach es X.env)).any (·.1)=false:=by rfl):PE X (.Call (.Name x p) (e::es) [] pos) (tCB r t):=by
 intro pins s σ H Q I h;refine wpAny_Call_Name_kw (Jg I hg hm hv ?_ hn hdb);exact PyProof.Rows.callWith_builtin1 (thn (ha pos pins s σ H _ I h) λus s1 ⟨vs,H1,I1,r1,q1⟩=>hc pins s1 σ H1 vs us Q I1 r1 q1) he hpl
theorem ZST (hc:CallR X (.type T) r) (hg:Gl X x) (hm:X.mg x=none) (hv:bootBuiltins x=some (.type T)) (ha:PA X (e::es) t) (hn:x≠"__name__":=by decide) (hdb:(x == ("__debug__":Str))=false:=by decide)
  (he:starEach (e::es) X.env=(false,eval e X.env)::starEach es X.env:=by rfl) (hpl:(backTo pos (starEach es X.env)).any (·.1)=false:=by rfl):PE X (.Call (.Name x p) (e::es) [] pos) (tCB r t):=by
 intro pins s σ H Q I h;refine wpAny_Call_Name_kw (Jg I hg hm hv ?_ hn hdb);exact PyProof.Rows.callWith_type1 (thn (ha pos pins s σ H _ I h) λus s1 ⟨vs,H1,I1,r1,q1⟩=>hc pins s1 σ H1 vs us Q I1 r1 q1) he hpl
end
end L2
namespace HT
open PySem PyProof.Rows
section
open PySem.SeqAt
open PySem.AutoSeq1 (wpAny_loadPart')
open PySem.MeetsSeq PySem.MeetsSeq2 PySem.MeetsSeq3
end
section
variable {prog:Program} {w:World} {A:Around} {E:Value->Shared->Prop} {s:Shared}
theorem ZQY {t b:Addr} {vs ws:List Value} {Q:Value->Shared->Prop} (ht:IsTup s.heap t vs.toArray) (hb:IsTup s.heap b ws.toArray) (hv:vs≠ [])
  (h1:ws= []->Q (.ref t) s) (h2:ws≠ []->Q (.ref s.heap.objs.size) {s with heap:=s.heap.push {cls:=.type "tuple",data:=.seq (vs++ws).toArray}})
  (hsz:vs.length + ws.length<=sizeLine):wpAny (model prog w) A (binaryOp .Add (.ref t) (.ref b)) Q E s:=by
 obtain ⟨⟨cls,dd,data,sl⟩,ho,hc,n,hd⟩:=id ht;obtain ⟨⟨cls2,dd2,data2,sl2⟩,ho2,hc2,n2,hd2⟩:=id hb;simp only at hc hd hc2 hd2;subst hc hd hc2 hd2;have e:vs.toArray++ws.toArray=(vs++ws).toArray:=by simp
 by_cases hw:ws= []
 ·exact concat_meets ⟨_,ho,rfl⟩ ⟨_,ho2,rfl⟩ noFill_tuple_add seq_tuple_add PySem.F.slot_tuple_add PySem.F.entry_tuple_add (PySem.F.args_tuple_add_2 _ _)
   (tuple_addW1 t b vs.toArray ws.toArray n n2 dd dd2 sl sl2 (by simpa using hv) (by simp [hw])) ⟨ho,ho2,h1 hw⟩
 ·refine concat_meets ⟨_,ho,rfl⟩ ⟨_,ho2,rfl⟩ noFill_tuple_add seq_tuple_add PySem.F.slot_tuple_add PySem.F.entry_tuple_add (PySem.F.args_tuple_add_2 _ _)
   (tuple_addW2 t b vs.toArray ws.toArray n n2 dd dd2 sl sl2 (by simpa using hv) (by simpa using hw) (by rw [List.size_toArray,List.size_toArray];exact hsz)) ⟨ho,ho2,?_⟩
  rw [e];exact h2 hw
noncomputable def sIx (n d:Nat):Option Int->Nat
 | none=>d
 | some v=>if v < 0 then (v + (n:Int)).toNat else min v.toNat n
theorem ZHK (n d:Nat) (hd:d<=n) (o:Option Int):sIx n d o<=n:=by
 cases o with
 | none=>exact hd
 | some v=>
  show (if v < 0 then (v + (n:Int)).toNat else min v.toNat n)<=n;by_cases hv:v < 0
  ·rw [if_pos hv];lia
  ·rw [if_neg hv];exact Nat.min_le_right _ _
theorem ZJk (v:Int) (n d:Nat):(if v < 0 then max (v + (n:Int)) 0 else min v (n:Int))=((sIx n d (some v):Nat):Int):=by
 show (if v < 0 then max (v + (n:Int)) 0 else min v (n:Int))=(((if v < 0 then (v + (n:Int)).toNat else min v.toNat n):Nat):Int);by_cases hv:v < 0
 ·simp only [if_pos hv];lia
 ·simp only [if_neg hv];lia
theorem ZNx (lo hi:Option Int) (n:Nat):Builtin.Slice.sliceAdjust lo hi 1 (n:Int)=(((sIx n 0 lo:Nat):Int),((sIx n n hi:Nat):Int)):=by
 have h1:¬((1:Int) < 0):=by lia
 unfold Builtin.Slice.sliceAdjust;simp only [h1,if_false];refine Prod.ext ?_ ?_
 ·cases lo with
  | none=>rfl
  | some v=>exact ZJk v n 0
 ·cases hi with
  | none=>rfl
  | some v=>exact ZJk v n n
theorem ZK6 (i j:Nat):Builtin.Slice.slicePlaces (i:Int) (j:Int) 1=j - i:=by
 unfold Builtin.Slice.slicePlaces;have h1:(1:Int) > 0:=by lia
 simp only [h1,if_true,Int.ediv_one]
 split <;> lia
theorem ZJD {v:Value} {o:Option Int} {Q:Option Int->Shared->Prop} (p:IsPart v o) (h:Q o s):wpAny (model prog w) A (Builtin.Slice.slicePartIndex v) Q E s:=by
 cases p with
 | none=>exact slicePart_none h
 | int i t=>exact slicePart_int h
theorem ZJx {sl:Addr} {vl vu:Value} {lo hi:Option Int} {n:Nat} {Q:Int×Int×Nat->Shared->Prop} (hs:s.heap.IsSliceOf sl vl vu .none) (pl:IsPart vl lo) (pu:IsPart vu hi)
  (h:Q (((sIx n 0 lo:Nat):Int),1,sIx n n hi - sIx n 0 lo) s):wpAny (model prog w) A (Builtin.Slice.sliceApplied (.ref sl) (pure (n:Int))) Q E s:=by
 obtain ⟨os,hos,hcs,hds⟩:=id hs;unfold Builtin.Slice.sliceApplied Builtin.Slice.sliceFields;refine wpAny_bind (wpAny_bind (wpAny_field hos hds (x:=vl) rfl (wpAny_bind (wpAny_field hos hds (x:=vu) rfl (wpAny_bind (wpAny_field hos hds (x:=.none) rfl (wpAny_pure ?_)))))));refine wpAny_bind (slicePart_none ?_);show wpAny _ _ (if ((1:Int) == 0)=true then _ else _) _ _ s;rw [if_neg (by decide)];refine wpAny_bind (ZJD pl (wpAny_bind (ZJD pu (wpAny_bind (wpAny_pure ?_)))))
 show wpAny _ _ (match Builtin.Slice.sliceAdjust lo hi 1 (n:Int) with | (lo,hi)=>pure (lo,(1:Int),Builtin.Slice.slicePlaces lo hi 1)) _ _ s
 rw [ZNx lo hi n];show wpAny _ _ (pure (((sIx n 0 lo:Nat):Int),(1:Int),Builtin.Slice.slicePlaces ((sIx n 0 lo:Nat):Int) ((sIx n n hi:Nat):Int) 1)) _ _ s;rw [ZK6];exact wpAny_pure h
theorem ZRu (xs:Array Value) (i k:Nat):((List.range k).filterMap λ(m:Nat)=>xs[((i:Int) + (m:Int) * 1).toNat]?).toArray=((xs.toList.drop i).take k).toArray:=by
 have e:(λ(m:Nat)=>xs[((i:Int) + (m:Int) * 1).toNat]?)=λm=>xs[i + m]? :=by
  funext m;have:((i:Int) + (m:Int) * 1).toNat=i + m:=by lia
  rw [this]
 rw [e];have:=pick_run xs i k;rw [List.filterMap_map] at this;have e2:((λx=>xs[x]?) ∘ λx=>i + x)=λm=>xs[i + m]? :=rfl
 rw [e2] at this;rw [this]
theorem ZKy {t sl:Addr} {items:Array Value} {vl vu:Value} {lo hi:Option Int} {Q:Value->Shared->Prop} (ht:IsTup s.heap t items) (hs:s.heap.IsSliceOf sl vl vu .none) (pl:IsPart vl lo) (pu:IsPart vu hi)
  (hw:¬(sIx items.size 0 lo=0/\sIx items.size items.size hi=items.size))
  (h:Q (.ref s.heap.objs.size) {s with heap:=s.heap.push {cls:=.type "tuple",data:=.seq ((items.toList.drop (sIx items.size 0 lo)).take (sIx items.size items.size hi - sIx items.size 0 lo)).toArray}})
  (hsz:items.size<=sizeLine):wpAny (model prog w) A (getItem (.ref t) (.ref sl)) Q E s:=by
 have htake:sizeOk (.seq ((items.toList.drop (sIx items.size 0 lo)).take (sIx items.size items.size hi - sIx items.size 0 lo)).toArray):=by show ((items.toList.drop (sIx items.size 0 lo)).take (sIx items.size items.size hi - sIx items.size 0 lo)).toArray.size<=sizeLine;rw [List.size_toArray,List.length_take,List.length_drop,Array.length_toList];lia
 have hj:sIx items.size items.size hi<=items.size:=ZHK _ _ (Nat.le_refl _) hi;obtain ⟨os,hos,hcs,hds⟩:=id hs;have hTs:s.TypeIs (.ref sl) "slice":=⟨os,hos,hcs⟩;unfold getItem
 try with_reducible refine wpAny_holding ?_
 first | refine wpAny_bind (wpAny_pure ?_) | skip
 refine wpAny_bind (wpAny_sequenceKey ht.typeIs (by decide) ?_);refine wpAny_bind (wpAny_callSpecial?_slot (name:=Str.ofString "__getitem__") ht.typeIs PyProof.Rows.slot_tuple_getitem
  (wpAny_call_entry PyProof.Rows.slot_tuple_getitem ht.typeIs entry_tuple_getitem ?_ (args_tuple_getitem _ _)))
 show wpAny _ _ (Builtin.Tuple.tupleItemsOf (.ref t) >>=_) _ _ s;refine wpAny_bind (tupleItemsOf_ ht ?_);refine wpAny_bind (wpAny_typeOf hTs ?_);rw [if_pos (by decide)];refine wpAny_bind (ZJx hs pl pu ?_);have hno:¬((((sIx items.size 0 lo:Nat):Int) == 0 && (1:Int) == 1 && (sIx items.size items.size hi - sIx items.size 0 lo) == items.size)=true):=by intro q;rw [Bool.and_eq_true,Bool.and_eq_true] at q;have q1:((sIx items.size 0 lo:Nat):Int)=0:=eq_of_beq q.1.1;have q2:sIx items.size items.size hi - sIx items.size 0 lo=items.size:=eq_of_beq q.2;exact hw ⟨by lia,by lia⟩
 show wpAny _ _ (if (((sIx items.size 0 lo:Nat):Int) == 0 && (1:Int) == 1 && (sIx items.size items.size hi - sIx items.size 0 lo) == items.size)=true then _ else _) _ _ s;rw [if_neg hno,ZRu]
 first
  | exact wpAny_bind (m:=Builtin.Tuple.tupleExact _) (wpAny_newObj_type (wpAny_pure ⟨_,rfl,wpAny_pure h⟩) htake)
  | exact wpAny_bind (m:=Builtin.Tuple.tupleExact _) (wpAny_newObj_type (wpAny_bind (wpAny_pure (wpAny_pure ⟨_,rfl,wpAny_pure h⟩))) htake)
  | exact wpAny_bind (wpAny_bind (m:=Builtin.Tuple.tupleExact _) (wpAny_newObj_type (wpAny_pure (wpAny_pure ⟨_,rfl,wpAny_pure h⟩)) htake))
  | exact wpAny_bind (wpAny_bind (m:=Builtin.Tuple.tupleExact _) (wpAny_newObj_type (wpAny_pure ⟨_,rfl,wpAny_pure h⟩) htake))
end
end HT
namespace L2
open PySem PySem.Spec PyProof.Rows
variable {xs:List V} {pins:List (Addr×Obj)} {σ:St} {H:Hp} {s:Shared} {its:List Value}
noncomputable abbrev TO:=St->Hp->(Option Int->Hp->Prop)->Prop
noncomputable def PO (X:Cx) (e:Option Expr) (t:TO):Prop:=
 ∀(pins:List (Addr×Obj)) (s:Shared) (σ:St) (H:Hp) (Q:Option Int->Hp->Prop),Inv X pins σ H s->t σ H Q->
  wpAny (model X.prog X.w) X.A (evalPart e X.env) (λu s'=>∃o H',Inv X pins σ H' s'/\IsPart u o/\Q o H') X.xe s
noncomputable def ZQs:TO:=λ_ H Q=>Q none H
noncomputable def ZNk (t:TE):TO:=λσ H Q=>t σ H λx H1=>∃i,x=.int i/\Q (some i) H1
section
variable {X:Cx} {e:Expr} {te:TE} {lo hi:Option Expr} {tl th:TO} {pos p2:Pos}
theorem ZR0:PO X none ZQs:=by intro pins s σ H Q I h;rw [evalPart_none];exact wpAny_pure ⟨none,H,I,.none,h⟩
theorem ZKC (h:PE X e te):PO X (some e) (ZNk te):=by
 intro pins s σ H Q I hw;rw [evalPart_some];refine thn (h pins s σ H _ I hw) λu s1 ⟨x,H1,I1,r1,q1⟩=> ?_
 obtain ⟨i,rfl,q⟩:=q1;obtain ⟨t,rfl⟩:=r1;exact ⟨some i,H1,I1,.int i t,q⟩
noncomputable def SlR (X:Cx) (r:V->Option Int->Option Int->Hp->VK->Prop):Prop:=
 ∀(pins:List (Addr×Obj)) (s:Shared) (σ:St) (H:Hp) (x:V) (v vl vu:Value) (lo hi:Option Int) (sl:Addr) (Q:VK),Inv X pins σ H s->RelV x v->s.heap.IsSliceOf sl vl vu .none->IsPart vl lo->IsPart vu hi->r x lo hi H Q->
  ∃T id,typeLookup (.type T) "__getitem__"=pure (some (.builtin id))/\s.TypeIs v T/\wpAny (model X.prog X.w) X.A (getItem v (.ref sl)) (EP X pins σ Q) X.xe s
theorem SlR.or {r r':V->Option Int->Option Int->Hp->VK->Prop} (h:SlR X r) (h':SlR X r'):SlR X (λx lo hi H Q=>r x lo hi H Q∨r' x lo hi H Q):=by
 intro pins s σ H x v vl vu lo hi sl Q I rx hs pl pu q;rcases q with q | q
 ·exact h pins s σ H x v vl vu lo hi sl Q I rx hs pl pu q
 ·exact h' pins s σ H x v vl vu lo hi sl Q I rx hs pl pu q
noncomputable def tSl (r:V->Option Int->Option Int->Hp->VK->Prop) (te:TE) (tl th:TO):TE:=λσ H Q=>te σ H λx H1=>tl σ H1 λl H2=>th σ H2 λu H3=>r x l u H3 Q
theorem ZO1 {r:V->Option Int->Option Int->Hp->VK->Prop} (hr:SlR X r) (he:PE X e te) (hl:PO X lo tl) (hu:PO X hi th):PE X (.Subscript e (.Slice lo hi none p2) pos) (tSl r te tl th):=by
 intro pins s σ H Q I h;refine Subscript_ (thn (he pins s σ H _ I h) λv s1 ⟨x,H1,I1,r1,q1⟩=> ?_);refine wpAny_Slice (thn (hl pins s1 σ H1 _ I1 q1) λvl s2 ⟨l,H2,I2,pl,q2⟩=>thn (hu pins s2 σ H2 _ I2 q2) λvu s3 ⟨u,H3,I3,pu,q3⟩=> ?_);rw [evalPart_none];refine wpAny_pure ?_;have I4:Inv X pins σ H3 {s3 with heap:=s3.heap.push {cls:=.type "slice",data:=.fields #[vl,vu,.none]}}:=I3.kept (t':=s3.toks) λb ob q=>Heap.get?_push_of_some _ q
 obtain ⟨T,id,hT,ht,hg⟩:=hr pins {s3 with heap:=s3.heap.push {cls:=.type "slice",data:=.fields #[vl,vu,.none]}} σ H3 x v vl vu l u s3.heap.objs.size Q I4 r1 (Heap.IsSliceOf.new ..) pl pu q3;show wpAny (model X.prog X.w) X.A (subscriptTail e (.Slice lo hi none p2) v (.ref s3.heap.objs.size)) (EP X pins σ Q) X.xe {s3 with heap:=s3.heap.push {cls:=.type "slice",data:=.fields #[vl,vu,.none]}}
 exact tail_any (ops:= [.ref s3.heap.objs.size,v]) ht hT hg (by with_unfolding_all rfl)
noncomputable def Lw (xs:List V) (lo hi:Option Int):List V:=(xs.drop (HT.sIx xs.length 0 lo)).take (HT.sIx xs.length xs.length hi - HT.sIx xs.length 0 lo)
theorem ZGs (xs:List V) (lo hi:Option Int):(Lw xs lo hi).length<=xs.length:=by unfold Lw;rw [List.length_take,List.length_drop];lia
noncomputable def rSlT (K:PySem.W.Frag):V->Option Int->Option Int->Hp->VK->Prop:=λx lo hi H Q=>∃a xs,x=.ref a/\SqT K H a xs/\
 ¬(HT.sIx xs.length 0 lo=0/\HT.sIx xs.length xs.length hi=xs.length)/\∀p,H p=none->Q (.ref p) (upd H p (.tup (Lw xs lo hi)))
theorem ZOe:SlR X (rSlT X.K):=by
 intro pins s σ H x v vl vu lo hi sl Q I rx hs pl pu h;obtain ⟨a,xs,rfl,hx,hw,q⟩:=h;cases rx;obtain ⟨its,r,ht,hz⟩:=I.tuple hx;have hlen:its.toArray.size=xs.length:=by rw [List.size_toArray];exact r.length.symm
 refine ⟨"tuple",_,PyProof.Rows.slot_tuple_getitem.lookup,ht.typeIs,?_⟩;refine HT.ZKy ht hs pl pu (by rw [hlen];exact hw) ?_ (by rw [hlen];exact hz);rw [hlen];refine ⟨.ref s.heap.objs.size,_,I.laid (t':=s.toks) (o:=.tup (Lw xs lo hi)) (λb ob q=>Heap.get?_push_of_some _ q) (Nat.le_refl _) ?_,rfl,q _ (I.hok.fresh (Nat.le_refl _))⟩;exact ⟨Nat.le_trans (ZGs xs lo hi) hz,_,(r.drop (HT.sIx xs.length 0 lo)).take (HT.sIx xs.length xs.length hi - HT.sIx xs.length 0 lo),IsTup.new _ _⟩
noncomputable def ZGC (K:PySem.W.Frag):R2:=λx y H Q=>∃a b xs ys,x=.ref a/\y=.ref b/\SqT K H a xs/\SqT K H b ys/\xs≠ []/\xs.length + ys.length<=sizeLine/\
 (ys= []->Q (.ref a) H)/\(ys≠ []->∀p,H p=none->Q (.ref p) (upd H p (.tup (xs++ys))))
theorem Vals.ZEF {us:List Value} (r:Vals xs us):us= []↔xs= []:=by
 cases r with
 | nil=>simp
 | cons _ _=>simp
theorem ZRf:OpR X (binaryOp .Add) (ZGC X.K):=by
 intro pins s σ H x y v u Q I rx ry h;obtain ⟨a,b,xs,ys,rfl,rfl,ha,hb,hx,hz,q1,q2⟩:=h;cases rx;cases ry;obtain ⟨its,r1,p1,_⟩:=I.tuple ha;obtain ⟨its2,r2,p2,_⟩:=I.tuple hb;refine HT.ZQY p1 p2 (λz=>hx (r1.ZEF.mp z)) (λz=>⟨.ref a,H,I,rfl,q1 (r2.ZEF.mp z)⟩) (λz=> ?_) (by rw [<-r1.length,<-r2.length];exact hz);refine ⟨.ref s.heap.objs.size,_,I.laid (t':=s.toks) (o:=.tup (xs++ys)) (λb ob q=>Heap.get?_push_of_some _ q) (Nat.le_refl _) ?_,rfl,q2 (λw=>z (r2.ZEF.mpr w)) _ (I.hok.fresh (Nat.le_refl _))⟩
 exact ⟨by rw [List.length_append];exact hz,_,r1.append r2,IsTup.new _ _⟩
end
noncomputable def ixN (n:Nat) (i:Int):Option Nat:=if 0<=i then (if i < n then some i.toNat else none) else if -(n:Int)<=i then some (i + n).toNat else none
noncomputable def atI {α:Type} (xs:List α) (i:Int):Option α:=(ixN xs.length i).bind λj=>xs[j]?
theorem ZGQ {n:Nat} {i:Int} {j:Nat} (h:ixN n i=some j):seqIndex? i n=some j/\j < n/\ -(n:Int)<=i/\i < n:=by
 unfold ixN at h;by_cases h0:0<=i
 ·rw [if_pos h0] at h;by_cases h1:i < n
  ·rw [if_pos h1] at h;have e:i.toNat=j:=Option.some.inj h;exact ⟨by rw [seqIndex_of h0 h1,e],by lia,by lia,h1⟩
  ·rw [if_neg h1] at h;cases h
 ·rw [if_neg h0] at h;by_cases h1: -(n:Int)<=i
  ·rw [if_pos h1] at h;have e:(i + n).toNat=j:=Option.some.inj h;exact ⟨by rw [seqIndex_neg (by lia) h1,e],by lia,h1,by lia⟩
  ·rw [if_neg h1] at h;cases h
theorem X7 {α:Type} {xs:List α} {i:Int} {v:α} (h:atI xs i=some v):∃j,seqIndex? i xs.length=some j/\xs[j]? =some v/\j < xs.length/\ -(xs.length:Int)<=i/\i < xs.length:=by
 unfold atI at h;cases e:ixN xs.length i with
 | none=>rw [e] at h;cases h
 | some j=>
  rw [e] at h;obtain ⟨h1,h2,h3,h4⟩:=ZGQ e;exact ⟨j,h1,h,h2,h3,h4⟩
noncomputable def PlainIx (b:Expr):Prop:=∀o i,subscripted b false o i=operate [o,i] (getItem o i)
noncomputable def IxR (X:Cx) (r:R2):Prop:=
 ∀(value slice:Expr) (pins:List (Addr×Obj)) (s:Shared) (σ:St) (H:Hp) (x y:V) (v u:Value) (Q:VK),Inv X pins σ H s->RelV x v->RelV y u->r x y H Q->
  subscripted slice false v u=operate [v,u] (getItem v u)->wpAny (model X.prog X.w) X.A (subscriptTail value slice v u) (EP X pins σ Q) X.xe s
noncomputable def MtR (X:Cx) (id:String) (r:V->List V->Hp->VK->Prop):Prop:=
 ∀(pins:List (Addr×Obj)) (s:Shared) (σ:St) (H:Hp) (x:V) (xs:List V) (v:Value) (us:List Value) (Q:VK),Inv X pins σ H s->RelV x v->Vals xs us->r x xs H Q->
  wpAny (model X.prog X.w) X.A (call (.builtin id) (v::us)) (EP X pins σ Q) X.xe s
section
variable {X:Cx} {a b:Expr} {ta tb:TE} {pos:Pos}
theorem IxR.or {r r':R2} (h:IxR X r) (h':IxR X r'):IxR X (λx y H Q=>r x y H Q∨r' x y H Q):=by
 intro value slice pins s σ H x y v u Q I rx ry q hs;rcases q with q | q
 ·exact h value slice pins s σ H x y v u Q I rx ry q hs
 ·exact h' value slice pins s σ H x y v u Q I rx ry q hs
theorem ZRk {r:R2} (hr:IxR X r) (ha:PE X a ta) (hb:PE X b tb) (hs:PlainIx b):PE X (.Subscript a b pos) (tOp r ta tb):=by intro pins s σ H Q I h;exact Subscript_ (ZD2 ha hb I h λv u s2 x y H2 I2 rx ry q=>hr a b pins s2 σ H2 x y v u Q I2 rx ry q (hs _ _))
noncomputable def rIxL (K:PySem.W.Frag):R2:=λx y H Q=>∃p xs i v,x=.ref p/\y=.int i/\SqL K H p xs/\atI xs i=some v/\Q v H
noncomputable def rIxT (K:PySem.W.Frag):R2:=λx y H Q=>∃p xs i v,x=.ref p/\y=.int i/\SqT K H p xs/\atI xs i=some v/\Q v H
noncomputable def rIxS:R2:=λx y H Q=>∃z i c,x=.str z/\y=.int i/\z.length<=sizeLine/\atI z.cps.toList i=some c/\Q (.str ⟨#[c]⟩) H
theorem ZKz:IxR X (rIxL X.K):=by
 intro value slice pins s σ H x y v u Q I rx ry h hs;obtain ⟨p,xs,i,z,rfl,rfl,hq,he,q⟩:=h;cases rx;obtain ⟨t,rfl⟩:=ry;obtain ⟨its,r,pl,hz⟩:=I.list hq;obtain ⟨j,h1,h2,h3,h4,h5⟩:=X7 he;obtain ⟨w,ew,rw'⟩:=r.get h2;have hl:=r.length;have hn:=line63;have fin:EP X pins σ Q w s:=⟨z,H,I,rw',q⟩;by_cases h0:0<=i
 ·have hj:i.toNat=j:=by rw [seqIndex_of h0 h5] at h1;exact Option.some.inj h1
  exact item_listR pl.isList h0 (by lia) (by rw [hj];simpa using ew) fin hs
 ·have hj:(i + (its.toArray.size:Int)).toNat=j:=by rw [seqIndex_neg (by lia) h4] at h1;rw [List.size_toArray,<-hl];exact Option.some.inj h1
  exact subscriptTail_builtinR (x:=w) pl.isList.typeIs slot_list_getitem.lookup
   (wpAny_getItem_list_neg (Q:=λr s'=>r=w/\EP X pins σ Q r s') pl.isList (by lia) (by rw [List.size_toArray] <;> lia) (by lia) (by rw [hj];simpa using ew) ⟨rfl,fin⟩) hs
theorem ZP7:IxR X (rIxT X.K):=by
 intro value slice pins s σ H x y v u Q I rx ry h hs;obtain ⟨p,xs,i,z,rfl,rfl,hq,he,q⟩:=h;cases rx;obtain ⟨t,rfl⟩:=ry;obtain ⟨its,r,pl,hz⟩:=I.tuple hq;obtain ⟨j,h1,h2,h3,h4,h5⟩:=X7 he;obtain ⟨w,ew,rw'⟩:=r.get h2;have hl:=r.length;have hn:=line63;have fin:EP X pins σ Q w s:=⟨z,H,I,rw',q⟩;exact subscriptTail_builtinR (x:=w) pl.typeIs slot_tuple_getitem.lookup
  (getItem_tuple (j:=j) (Q:=λr s'=>r=w/\EP X pins σ Q r s') pl (by lia) (by lia) (by rw [List.size_toArray,<-hl];exact h1) (by simpa using ew) ⟨rfl,fin⟩) hs
theorem ZNw:IxR X rIxS:=by
 intro value slice pins s σ H x y v u Q I rx ry h hs;obtain ⟨z,i,c,rfl,rfl,hz,he,q⟩:=h;obtain ⟨t,rfl⟩:=rx;obtain ⟨t',rfl⟩:=ry;obtain ⟨j,h1,h2,h3,h4,h5⟩:=X7 he;have hl:z.cps.toList.length=z.length:=by simp [Str.length]
 rw [hl] at h1 h4 h5;have hn:=line63;exact tail_any (typeIs_str s z t) slot_str_getitem.lookup (getItem_str (c:=c) (by have e1:decide (i < -(2 ^ 63:Int))=false:=decide_eq_false (by lia);have e2:decide (i ≥ 2 ^ 63)=false:=decide_eq_false (by lia);rw [e1,e2,Bool.or_false]) (by rw [h1];simpa using h2) ⟨.str ⟨#[c]⟩,H,I.tok _,⟨_,rfl⟩,q⟩) hs
noncomputable def rIx (K:PySem.W.Frag):R2:=λx y H Q=>rIxL K x y H Q∨rIxT K x y H Q∨rIxS x y H Q
theorem ZNn:IxR X (rIx X.K):=ZKz.or (ZP7.or ZNw)
theorem ZK2 (its:List Value) (n j:Nat) (u:Value):Obj.mapSeq (·.setIfInBounds j u) {cls:=.type "list",data:=.seq its.toArray n}={cls:=.type "list",data:=.seq (its.set j u).toArray n}:=by simp [Obj.mapSeq]
theorem Inv.lst {p:Addr} (I:Inv X pins σ H s) (h:H p=some (.lst xs)):
  ∃(its:List Value) (n:Nat),Vals xs its/\s.heap.get? p=some {cls:=.type "list",data:=.seq its.toArray n}/\xs.length<=sizeLine:=by
 obtain ⟨z,its,n,r,e⟩:=I.hok p _ h;exact ⟨its,n,r,e,z⟩
theorem Inv.ZMF {p:Addr} {ys:List V} {its':List Value} {n n':Nat} {f:Obj->Obj} (I:Inv X pins σ H s) (h:H p=some (.lst xs))
  (ho:s.heap.get? p=some {cls:=.type "list",data:=.seq its.toArray n}) (hf:f {cls:=.type "list",data:=.seq its.toArray n}={cls:=.type "list",data:=.seq its'.toArray n'}) (r:Vals ys its') (hz:ys.length<=sizeLine) (t:Nat):
  Inv X pins σ (upd H p (.lst ys)) {s with heap:=s.heap.update p f,toks:=t}:=by
 have e:(s.heap.update p f).get? p=some {cls:=.type "list",data:=.seq its'.toArray n'}:=by rw [Heap.get?_update_self f ho (by rw [hf] <;> rfl),hf]
 refine I.write (x:=p) (e:=p) (by rw [h];trivial) (.inl rfl) (λb u hb q=>(Heap.get?_update_other _ _ (Ne.symm hb)).trans q) ⟨_,e⟩ ?_;exact ⟨hz,its',n',r,e⟩
noncomputable def ZPE:V->V->V->Hp->(Hp->Prop)->Prop:=λo i v H Q=>∃p xs k j,o=.ref p/\i=.int k/\H p=some (.lst xs)/\ixN xs.length k=some j/\Q (upd H p (.lst (xs.set j v)))
theorem set_list:PSet X ZPE:=by
 intro pins s σ H o i v ov iv u Q I ro ri rv h;obtain ⟨p,xs,k,j,rfl,rfl,hp,hj,q⟩:=h;cases ro;obtain ⟨t,rfl⟩:=ri;obtain ⟨its,n,r,ho,hz⟩:=I.lst hp;obtain ⟨h1,h2,h3,h4⟩:=ZGQ hj;have hl:=r.length;have hn:=line63
 have I':Inv X pins σ (upd H p (.lst (xs.set j v))) {s with heap:=s.heap.update p (Obj.mapSeq (·.setIfInBounds j u))}:=
  I.ZMF hp ho (ZK2 its n j u) (r.set rv j) (by rw [List.length_set];exact hz) s.toks
 by_cases h0:0<=k
 ·have hk:k.toNat=j:=by rw [seqIndex_of h0 h4] at h1;exact Option.some.inj h1
  exact PySem.W.ki_setAt ho h0 (by lia) (by rw [List.size_toArray,<-hl];exact h4) (by rw [hk];exact ⟨_,I',q⟩)
 ·have hk:(k + (its.toArray.size:Int)).toNat=j:=by rw [seqIndex_neg (by lia) h3] at h1;rw [List.size_toArray,<-hl];exact Option.some.inj h1
  exact PySem.W.ki_setBack ho (by lia) (by rw [List.size_toArray,<-hl];exact h3) (by lia) (by rw [hk];exact ⟨_,I',q⟩)
theorem ZNb (lo hi:Option Int) (n:Nat):(sliceBounds lo hi none n).1=((HT.sIx n 0 lo:Nat):Int)/\(sliceBounds lo hi none n).2.1=((HT.sIx n n hi:Nat):Int)/\(sliceBounds lo hi none n).2.2=1:=by
 refine ⟨?_,?_,rfl⟩
 ·cases lo with
  | none=>simp [sliceBounds,HT.sIx]
  | some i=>
   simp only [sliceBounds,HT.sIx,Option.getD_none,show (1:Int) > 0 by decide,if_true];by_cases h:i < 0
   ·simp only [h,if_true] <;> lia
   ·simp only [h,if_false] <;> lia
 ·cases hi with
  | none=>simp [sliceBounds,HT.sIx]
  | some i=>
   simp only [sliceBounds,HT.sIx,Option.getD_none,show (1:Int) > 0 by decide,if_true];by_cases h:i < 0
   ·simp only [h,if_true] <;> lia
   ·simp only [h,if_false] <;> lia
theorem ZLF (its:List Value) (lo hi:Option Int):slicePick its.toArray lo hi none=((its.drop (HT.sIx its.length 0 lo)).take (HT.sIx its.length its.length hi - HT.sIx its.length 0 lo)).toArray:=by
 obtain ⟨h1,h2,h3⟩:=ZNb lo hi its.toArray.size;unfold slicePick;rw [h1,h2,h3]
 simp only [sliceRange_one,pick_run,List.size_toArray] <;> rfl
noncomputable def rSlL (K:PySem.W.Frag):V->Option Int->Option Int->Hp->VK->Prop:=λx lo hi H Q=>∃a xs,x=.ref a/\SqL K H a xs/\∀p,H p=none->Q (.ref p) (upd H p (.lst (Lw xs lo hi)))
theorem ZRD:SlR X (rSlL X.K):=by
 intro pins s σ H x v vl vu lo hi sl Q I rx hs pl pu h;obtain ⟨a,xs,rfl,hx,q⟩:=h;cases rx;obtain ⟨its,r,ht,hz⟩:=I.list hx;have hlen:=r.length;refine ⟨"list",_,slot_list_getitem.lookup,ht.isList.typeIs,?_⟩
 refine wpAny_getItem_list_slice ht.isList hs pl pu .none (by simp) ?_ (by rw [List.size_toArray] <;> lia)
 rw [ZLF,<-hlen];refine ⟨.ref s.heap.objs.size,_,I.laid (t':=s.toks) (o:=.lst (Lw xs lo hi)) (λb ob q=>Heap.get?_push_of_some _ q) (Nat.le_refl _) ?_,rfl,q _ (I.hok.fresh (Nat.le_refl _))⟩;exact ⟨Nat.le_trans (ZGs xs lo hi) hz,_,0,(r.drop (HT.sIx xs.length 0 lo)).take (HT.sIx xs.length xs.length hi - HT.sIx xs.length 0 lo),Heap.get?_push_size _ rfl⟩
noncomputable def Fb:V->Bool
 | .non=>true
 | .bl _=>true
 | .int _=>true
 | .str _=>true
 | _=>false
noncomputable def eqV:V->V->Bool
 | .non,.non=>true
 | .bl a,.bl b=>a == b
 | .bl a,.int b=>(if a then 1 else 0) == b
 | .int a,.bl b=>a == (if b then 1 else 0)
 | .int a,.int b=>a == b
 | .str a,.str b=>a == b
 | _,_=>false
theorem ZHy {A:Around} {y x:V} {u v:Value} (ry:RelV y u) (rx:RelV x v) (fy:Fb y=true) (fx:Fb x=true):SeqAt.EqAt A s u v (eqV y x):=by
 cases y with
 | non=>
  cases ry;cases x with
  | non=>cases rx;exact SeqAt.EqAt.same _
  | bl b=>cases rx;exact SeqAt.EqAt.none_bool b
  | int b=>obtain ⟨t,rfl⟩:=rx;exact SeqAt.EqAt.none_int b t
  | str b=>obtain ⟨t,rfl⟩:=rx;exact SeqAt.EqAt.none_str b t
  | _=>exact absurd (show false=true from fx) Bool.false_ne_true
 | bl a=>
  cases ry;cases x with
  | non=>cases rx;exact SeqAt.EqAt.bool_none a
  | bl b=>cases rx;exact SeqAt.EqAt.bool_bool a b
  | int b=>obtain ⟨t,rfl⟩:=rx;exact SeqAt.EqAt.bool_int a b t
  | str b=>obtain ⟨t,rfl⟩:=rx;exact SeqAt.EqAt.bool_str a b t
  | _=>exact absurd (show false=true from fx) Bool.false_ne_true
 | int a=>
  obtain ⟨t',rfl⟩:=ry;cases x with
  | non=>cases rx;exact SeqAt.EqAt.int_none a t'
  | bl b=>cases rx;exact SeqAt.EqAt.int_bool a t' b
  | int b=>obtain ⟨t,rfl⟩:=rx;exact SeqAt.EqAt.int_int a t' b t
  | str b=>obtain ⟨t,rfl⟩:=rx;exact SeqAt.EqAt.int_str a t' b t
  | _=>exact absurd (show false=true from fx) Bool.false_ne_true
 | str a=>
  obtain ⟨t',rfl⟩:=ry;cases x with
  | non=>cases rx;exact SeqAt.EqAt.str_none a t'
  | bl b=>cases rx;exact SeqAt.EqAt.str_bool a t' b
  | int b=>obtain ⟨t,rfl⟩:=rx;exact SeqAt.EqAt.str_int a t' b t
  | str b=>obtain ⟨t,rfl⟩:=rx;exact SeqAt.EqAt.str_str a t' b t
  | _=>exact absurd (show false=true from fx) Bool.false_ne_true
 | _=>exact absurd (show false=true from fy) Bool.false_ne_true
noncomputable def eqU (x:V) (u:Value):Bool:=match u with
 | .none=>eqV .non x
 | .bool b=>eqV (.bl b) x
 | .int i _=>eqV (.int i) x
 | .str z _=>eqV (.str z) x
 | _=>false
theorem ZHQ {x y:V} {u:Value} (r:RelV y u) (f:Fb y=true):eqU x u=eqV y x:=by
 cases y with
 | non=>cases r;rfl
 | bl b=>cases r;rfl
 | int i=>obtain ⟨t,rfl⟩:=r;rfl
 | str z=>obtain ⟨t,rfl⟩:=r;rfl
 | _=>exact absurd (show false=true from f) Bool.false_ne_true
theorem ZFP {x:V}:∀{xs:List V} {us:List Value},Vals xs us->xs.all Fb=true->us.any (eqU x)=xs.any λy=>eqV y x
 | _,_,.nil,_=>rfl
 | y::xs,u::us,.cons r t,f=>by rw [List.all_cons,Bool.and_eq_true] at f;rw [List.any_cons,List.any_cons,ZHQ r f.1,ZFP t f.2]
theorem ZDJ {A:Around} {x:V} {v:Value} (rx:RelV x v) (fx:Fb x=true):∀{xs:List V} {us:List Value},Vals xs us->xs.all Fb=true->∀u∈us,SeqAt.EqAt A s u v (eqU x u)
 | _,_,.nil,_=>λu hu=>by cases hu
 | y::xs,u::us,.cons r t,f=>λu' hu=>by
  rw [List.all_cons,Bool.and_eq_true] at f;rcases List.mem_cons.mp hu with rfl | hu
  ·rw [ZHQ r f.1];exact ZHy r rx f.1 fx
  ·exact ZDJ rx fx t f.2 u' hu
noncomputable def inV (x:V) (xs:List V):Bool:=xs.any λy=>eqV y x
noncomputable def rIn (K:PySem.W.Frag) (neg:Bool):R2:=λx y H Q=>∃p xs,y=.ref p/\(SqL K H p xs∨SqT K H p xs)/\Fb x=true/\xs.all Fb=true/\Q (.bl (if neg then !inV x xs else inV x xs)) H
theorem ZLG:OpR X (compareOp .In) (rIn X.K false):=by
 intro pins s σ H x y v u Q I rx ry h;obtain ⟨p,xs,rfl,hq,fx,fs,q⟩:=h;cases ry;rcases hq with hq | hq
 ·obtain ⟨its,r,pl,hz⟩:=I.list hq;refine SeqAt.in_listAt (eqU x) pl.isList (λw hw=>ZDJ rx fx r fs w (by simpa using hw)) ⟨.bl _,H,I,rfl,?_⟩;rw [show its.toArray.any (eqU x)=its.any (eqU x) by simp,ZFP r fs];exact q
 ·obtain ⟨its,r,pl,hz⟩:=I.tuple hq;refine SeqAt.in_tupleAt (eqU x) pl (λw hw=>ZDJ rx fx r fs w (by simpa using hw)) ⟨.bl _,H,I,rfl,?_⟩;rw [show its.toArray.any (eqU x)=its.any (eqU x) by simp,ZFP r fs];exact q
theorem ZRa:CallR X (.builtin "len") (λxs H Q=>∃p ys,xs= [.ref p]/\(SqL X.K H p ys∨SqT X.K H p ys)/\Q (.int ys.length) H):=by
 intro pins s σ H xs us Q I r h;obtain ⟨p,ys,rfl,hq,q⟩:=h;obtain ⟨u,rfl,rx⟩:=vals1 r;cases rx;have hn:=line63;rcases hq with hq | hq
 ·obtain ⟨its,r',pl,hz⟩:=I.list hq;have hlen:=r'.length
  exact Calls.call_len_list pl.isList (by simp only [List.size_toArray] <;> lia) ⟨.int ys.length,H,I.tok _,⟨s.toks + 1,by rw [List.size_toArray,hlen]⟩,q⟩
 ·obtain ⟨its,r',pl,hz⟩:=I.tuple hq;have hlen:=r'.length
  exact len_tuple pl (by simp only [List.size_toArray] <;> lia) ⟨.int ys.length,H,I.tok _,⟨s.toks + 1,by rw [List.size_toArray,hlen]⟩,q⟩
theorem ZQh:CallR X (.builtin "len") (λxs H Q=>∃z,xs= [.str z]/\z.length<=sizeLine/\Q (.int z.length) H):=by intro pins s σ H xs us Q I r h;obtain ⟨z,rfl,hz,q⟩:=h;obtain ⟨u,rfl,t,rfl⟩:=vals1 r;have hn:=line63;exact len_str (by lia) ⟨.int z.length,H,I.tok _,⟨_,rfl⟩,q⟩
theorem CallR.or {f:Value} {r r':List V->Hp->VK->Prop} (h:CallR X f r) (h':CallR X f r'):CallR X f (λxs H Q=>r xs H Q∨r' xs H Q):=by
 intro pins s σ H xs us Q I rs q;rcases q with q | q
 ·exact h pins s σ H xs us Q I rs q
 ·exact h' pins s σ H xs us Q I rs q
theorem ZOf:CallR X (.type "list") (λxs H Q=>∃p ys,xs= [.ref p]/\(SqL X.K H p ys∨SqT X.K H p ys)/\∀l,H l=none->Q (.ref l) (upd H l (.lst ys))):=by
 intro pins s σ H xs us Q I r h;obtain ⟨p,ys,rfl,hq,q⟩:=h;obtain ⟨u,rfl,rx⟩:=vals1 r;cases rx;have fin:∀(its:List Value),Vals ys its->ys.length<=sizeLine->∀(h':Heap) (c':Nat),(∀b o',s.heap.get? b=some o'->h'.get? b=some o')->
   h'.get? s.heap.objs.size=some {cls:=.type "list",dict:=none,data:=.seq its.toArray c',slots:= #[]}->EP X pins σ Q (.ref s.heap.objs.size) {s with heap:=h'}:=λits r' hz h' c' kp e=>
  ⟨.ref s.heap.objs.size,_,I.laid (t':=s.toks) kp (Nat.le_refl _) (show ObjOk X.prog X.w _ h' _ (.lst ys) from ⟨hz,its,c',r',e⟩),rfl,q _ (I.hok.fresh (Nat.le_refl _))⟩
 rcases hq with hq | hq
 ·obtain ⟨its,r',pl,hz⟩:=I.list hq;have hlen:=r'.length;obtain ⟨o,ho,hc,n,hd⟩:=pl.isList
  exact call_list_seq p (.inl rfl) ho hc hd (λh' c' kp e=>fin its r' hz h' c' kp e) (by simp only [List.size_toArray] <;> lia)
 ·obtain ⟨its,r',pl,hz⟩:=I.tuple hq;have hlen:=r'.length;obtain ⟨o,ho,hc,n,hd⟩:=pl
  exact call_list_seq p (.inr rfl) ho hc hd (λh' c' kp e=>fin its r' hz h' c' kp e) (by simp only [List.size_toArray] <;> lia)
theorem ZRJ:CallR X (.type "tuple") (λxs H Q=>∃p ys,xs= [.ref p]/\((SqL X.K H p ys/\∀l,H l=none->Q (.ref l) (upd H l (.tup ys)))∨(SqT X.K H p ys/\Q (.ref p) H))):=by
 intro pins s σ H xs us Q I r h;obtain ⟨p,ys,rfl,h⟩:=h;obtain ⟨u,rfl,rx⟩:=vals1 r;cases rx;rcases h with ⟨hq,q⟩ | ⟨hq,q⟩
 ·obtain ⟨its,r',pl,hz⟩:=I.list hq;have hlen:=r'.length
  refine call_tuple_list pl.isList (λh' kp=> ?_) (by simp only [List.size_toArray] <;> lia)
  have I1:Inv X pins σ H {s with heap:=h'}:=I.kept (t':=s.toks) kp;have I2:Inv X pins σ (upd H h'.objs.size (.tup ys)) {s with heap:=h'.push {cls:=.type "tuple",data:=.seq its.toArray}}:=
   I1.laid (t':=s.toks) (λb o e=>Heap.get?_push_of_some _ e) (Nat.le_refl _) (show ObjOk X.prog X.w _ _ _ (.tup ys) from ⟨hz,its,r',IsTup.new _ _⟩)
  exact ⟨.ref h'.objs.size,_,I2,rfl,q _ (I1.hok.fresh (Nat.le_refl _))⟩
 ·obtain ⟨its,r',pl,hz⟩:=I.tuple hq;exact call_tuple_same pl ⟨.ref p,H,I,rfl,q⟩
noncomputable def tyV (K:PySem.W.Frag) (T:String) (x:V) (H:Hp):Prop:=match x with
 | .str _=>T="str"
 | .int _=>T="int"
 | .ref p=>(T="list"/\∃xs,SqL K H p xs)∨(T="tuple"/\∃o,K.lookup p=some o/\o.cls=.type "tuple"/\o.dict=none)∨
   (T="dict"/\((∃kvs,H p=some (.dK kvs))∨∃kvs,H p=some (.dT kvs)))∨(T="set"/\∃S n,H p=some (.set S n))
 | _=>False
theorem ZNM {T:String} {x:V} {v:Value} (I:Inv X pins σ H s) (r:RelV x v) (ty:tyV X.K T x H):
  s.TypeIs v T/\∀a,v=.ref a->∃ob,s.heap.get? a=some ob/\ob.dict=none:=by
 cases x with
 | str z=>
  obtain ⟨t,rfl⟩:=r
  cases (show T="str" from ty)
  exact ⟨typeIs_str s z t,λ_ e=>nomatch e⟩
 | int i=>
  obtain ⟨t,rfl⟩:=r
  cases (show T="int" from ty)
  exact ⟨typeIs_int s i t,λ_ e=>nomatch e⟩
 | ref p=>
  cases r;rcases ty with ⟨rfl,xs,hq⟩ | ⟨rfl,o,hk,hc,hd⟩ | ⟨rfl,hk⟩ | ⟨rfl,S,n,hk⟩
  ·obtain ⟨its,_,pl,_⟩:=I.list hq;refine ⟨pl.isList.typeIs,λa e=> ?_⟩;cases e;obtain ⟨o,n,e,c,hd,_⟩:=pl;exact ⟨o,e,hd⟩
  ·refine ⟨⟨o,I.kIn p o hk,hc⟩,λa e=> ?_⟩;cases e;exact ⟨o,I.kIn _ o hk,hd⟩
  ·have z:∃o,s.heap.get? p=some o/\o.ExactDict:=by
    rcases hk with ⟨kvs,hk⟩ | ⟨kvs,hk⟩
    ·obtain ⟨_,_,_,_,o,_,_,e,ex,_⟩:=I.hok p _ hk;exact ⟨o,e,ex⟩
    ·obtain ⟨_,_,_,_,o,_,_,e,ex,_⟩:=I.hok p _ hk;exact ⟨o,e,ex⟩
   obtain ⟨o,e,ex⟩:=z;refine ⟨⟨o,e,ex.1⟩,λa e2=> ?_⟩;cases e2;exact ⟨o,e,ex.2.1⟩
  ·obtain ⟨o,_,_,_,e,ex,_⟩:=I.hok p _ hk;refine ⟨⟨o,e,ex.1⟩,λa e2=> ?_⟩;cases e2;exact ⟨o,e,ex.2.1⟩
 | _=>exact False.elim ty
noncomputable def tBM (K:PySem.W.Frag) (T:String) (r:V->List V->Hp->VK->Prop) (to:TE) (t:TA):TE:=λσ H Q=>to σ H λx H1=>tyV K T x H1/\t σ H1 λxs H2=>r x xs H2 Q
variable {o e:Expr} {es:List Expr} {to:TE} {t:TA} {name:Str} {apos cpos:Pos} {T id:String} {r:V->List V->Hp->VK->Prop}
theorem ZKG (pa:PlainAttrs T) (slot:Slot T name id) (hty:typeOf (.builtin id)=pure (.type "method_descriptor")) (hm:MtR X id r) (ho:PE X o to) (ha:PA X (e::es) t)
  (hbase:attributeBase o name X.env (eval o X.env)=eval o X.env:=by rfl)
  (hfew:((backTo cpos (starEach (e::es) X.env)).all (λx=> !x.1) && (backToKw cpos (keywordEach [] X.env)).all (λx=>x.1.isSome)
   && decide ((e::es).length + ([]:List Keyword).length + (if ([]:List Keyword).isEmpty then 0 else 1) < 30))=true:=by rfl)
  (hline:(apos.endLine == cpos.line)=true:=by rfl) (hs:starEach (e::es) X.env=(false,eval e X.env)::starEach es X.env:=by rfl) (hplain:(backTo cpos (starEach es X.env)).any (·.1)=false:=by rfl):
  PE X (.Call (.Attribute o name apos) (e::es) [] cpos) (tBM X.K T r to t):=by
 intro pins s σ H Q I h;refine wpAny_Call_method_late hbase hfew hline rfl (thn (ho pins s σ H _ I h) λv s1 ⟨x,H1,I1,r1,ty,q1⟩=> ?_);obtain ⟨h1,h2⟩:=ZNM I1 r1 ty;refine ⟨T,id,pa,slot,hty,h1,h2,?_⟩;have hA:=ha cpos pins s1 σ H1 _ I1 q1;rw [hs] at hA ⊢
 refine Calls.callWith_builtin (by show (false || (backTo cpos (starEach es X.env)).any (·.1))=false;rw [hplain] <;> rfl) (Calls.evalArgs_plain ?_)
 exact thn hA λus s2 ⟨vs,H2,I2,r2,q2⟩=>hm pins s2 σ H2 x vs v us Q I2 r1 r2 q2
end
noncomputable def MtM (X:Cx) (id:String) (r:V->List V->Hp->VK->Prop):Prop:=
 ∀(pins:List (Addr×Obj)) (s:Shared) (σ:St) (H:Hp) (x:V) (xs:List V) (v:Value) (us:List Value) (Q:VK),Inv X pins σ H s->RelV x v->Vals xs us->r x xs H Q->
  wpAny (model X.prog X.w) X.A (call (.builtin id) (v::us)) (EP X pins σ Q) X.xe s
theorem Vals.one:∀{x:V} {us:List Value},Vals [x] us->∃u,us= [u]/\RelV x u
 | _,_,.cons r .nil=>⟨_,rfl,r⟩
theorem Vals.rep {us:List Value} (h:Vals xs us):∀k:Nat,Vals (List.replicate k xs).flatten (List.replicate k us).flatten
 | 0=>.nil
 | k + 1=>by rw [List.replicate_succ,List.replicate_succ,List.flatten_cons,List.flatten_cons];exact Vals.append h (Vals.rep h k)
theorem foldl_rep (its:List Value):∀(k:Nat) (acc:List Value),
  List.foldl (λx1 x2=>x1++x2) acc.toArray (List.replicate k its.toArray)=(acc++(List.replicate k its).flatten).toArray
 | 0,acc=>by simp
 | k + 1,acc=>by
  have e:acc.toArray++its.toArray=(acc++its).toArray:=by simp
  have e2:(acc++its)++(List.replicate k its).flatten=acc++(List.replicate (k + 1) its).flatten:=by rw [List.replicate_succ,List.flatten_cons,List.append_assoc]
  rw [<-e2,<-foldl_rep its k (acc++its),<-e,List.replicate_succ,List.foldl_cons]
section
variable {X:Cx} {pins:List (Addr×Obj)} {σ:St} {H:Hp} {s:Shared} {l b:Addr} {xs ys zs:List V}
theorem Inv.lset {its':List Value} {n:Nat} {f:Array Value->Array Value} {t':Nat} (I:Inv X pins σ H s) (hH:H l=some (.lst xs))
  (e:s.heap.get? l=some {cls:=.type "list",data:=.seq its.toArray n}) (hf:f its.toArray=its'.toArray) (hv:Vals ys its') (hz:ys.length<=sizeLine):
  Inv X pins σ (upd H l (.lst ys)) {s with heap:=s.heap.update l (Obj.mapSeq f),toks:=t'}:=by
 have q:=PySem.IsL.update e f;rw [hf] at q;refine I.write (x:=l) (e:=l) (by rw [hH];exact trivial) (.inl rfl) (λb' u hb hu=>(Heap.get?_update_other s.heap (Obj.mapSeq f) (Ne.symm hb)).trans hu) ⟨_,q⟩ ?_;exact ⟨hz,its',_,hv,q⟩
theorem Inv.lnew {t':Nat} (I:Inv X pins σ H s) (hv:Vals ys its) (hz:ys.length<=sizeLine):
  Inv X pins σ (upd H s.heap.objs.size (.lst ys)) {s with heap:=s.heap.push {cls:=.type "list",data:=.seq its.toArray},toks:=t'}:=
 I.laid (λ_ _ q=>Heap.get?_push_of_some _ q) (Nat.le_refl _) ⟨hz,its,0,hv,Heap.get?_push_size _ rfl⟩
theorem Inv.fresh (I:Inv X pins σ H s):H s.heap.objs.size=none:=I.hok.fresh (Nat.le_refl _)
theorem Inv.lstM (I:Inv X pins σ H s) (hH:H l=some (.lst xs)):xs.length<=sizeLine/\∃(its:List Value) (n:Nat),Vals xs its/\xs.length=its.length/\s.heap.get? l=some {cls:=.type "list",data:=.seq its.toArray n}:=by obtain ⟨z,its,n,r,e⟩:=I.hok l _ hH;exact ⟨z,its,n,r,r.length,e⟩
theorem ZRg {n:Nat} (h:n<=sizeLine):Builtin.List.listTooLong n=false:=by unfold Builtin.List.listTooLong;exact decide_eq_false (by lia)
end
section
variable {X:Cx}
noncomputable def ZO0:V->List V->Hp->VK->Prop:=λx vs H Q=>∃l xs y,x=.ref l/\vs= [y]/\H l=some (.lst xs)/\xs.length < sizeLine/\Q .non (upd H l (.lst (xs++ [y])))
theorem ZNF:MtM X "list.append" ZO0:=by
 intro pins s σ H x vs v us Q I rx rv h;obtain ⟨l,xs,y,rfl,rfl,hH,hz,q⟩:=h;cases rx;obtain ⟨u,rfl,ru⟩:=rv.one;obtain ⟨z,its,n,r,hl,e⟩:=I.lstM hH;refine call_meets F.slot_list_append ⟨_,e,rfl⟩ F.entry_list_append (F.args_list_append_2 _ _) (PySem.list_append l its.toArray n u (by rw [List.size_toArray];lia)) ⟨e,?_⟩;refine ⟨.non,_,I.lset (its':=its++ [u]) hH e (by simp) (r.append (.cons ru .nil)) ?_,rfl,q⟩
 rw [List.length_append,List.length_singleton];lia
noncomputable def rRep:R2:=λx y H Q=>∃l k xs,x=.ref l/\y=.int k/\H l=some (.lst xs)/\ -(2 ^ 63)<=k/\k < 2 ^ 63/\xs.length * k.toNat<=sizeLine/\
 ∀p,H p=none->Q (.ref p) (upd H p (.lst (List.replicate k.toNat xs).flatten))
theorem len_rep {α:Type} (xs:List α) (k:Nat):(List.replicate k xs).flatten.length=k * xs.length:=by
 induction k with
 | zero=>simp
 | succ k ih=>rw [List.replicate_succ,List.flatten_cons,List.length_append,ih,Nat.succ_mul,Nat.add_comm]
theorem ZRO:OpR X (binaryOp .Mult) rRep:=by
 intro pins s σ H x y v u Q I rx ry h;obtain ⟨l,k,xs,rfl,rfl,hH,h1,h2,hz,q⟩:=h;cases rx;obtain ⟨t,rfl⟩:=ry;obtain ⟨z,its,n,r,hl,e⟩:=I.lstM hH;have hlen:its.toArray.size * k.toNat<=sizeLine:=by rw [List.size_toArray,<-hl];exact hz
 have hcap:¬its.toArray.size * k.toNat > (2 ^ 63 - 1) / 8:=by
  have:(sizeLine:Nat)<=(2 ^ 63 - 1) / 8:=by decide
  lia
 have hfit:¬(!Builtin.List.listFitsIndex k)=true:=by rw [fitsIndex_both h1 h2];exact Bool.false_ne_true
 have hlong:¬Builtin.List.listTooLong (its.toArray.size * k.toNat)=true:=by rw [ZRg hlen];exact Bool.false_ne_true
 have hnew:List.foldl (λx1 x2=>x1++x2) #[] (List.replicate (if its.toArray.isEmpty=true then 0 else k.toNat) its.toArray)=(List.replicate k.toNat its).flatten.toArray:=by
  have f0:∀m:Nat,List.foldl (λx1 x2=>x1++x2) #[] (List.replicate m its.toArray)=(List.replicate m its).flatten.toArray:=λm=>by have:=foldl_rep its m [];rw [List.nil_append] at this;exact this
  rw [f0];cases its with
  | nil=>simp
  | cons a r'=>rw [if_neg (by simp)]
 refine wpAny_binaryOp_repeat_ref (T:="list") (U:="int") (by decide) ⟨_,e,rfl⟩ (λs'=>typeIs_int s' k t) noFill_list_mul F.fills_int_mul F.slot_int_rmul repeat_list F.slot_int_index.lookup
  (call_meets F.slot_int_rmul (typeIs_int s k t) F.entry_int_rmul (F.args_int_rmul_2 _ _) (int___rmul___int_list k t l its.toArray n)
   ⟨e,rfl,⟨_,e,rfl⟩,call_meets F.slot_list_mul ⟨_,e,rfl⟩ F.entry_list_mul (F.args_list_mul_2 _ _) (AutoListH.list___mul___list_int_3 l its.toArray n k t hfit hcap hlong) ⟨e,?_⟩⟩)
 rw [hnew];exact ⟨.ref _,_,I.lnew (t':=s.toks) (r.rep k.toNat) (by rw [len_rep,Nat.mul_comm];exact hz),rfl,q _ I.fresh⟩
end
section
variable {prog:Program} {w:World} {A:Around} {E:Value->Shared->Prop} {s:Shared}
end
section
variable {X:Cx}
end
end L2
namespace Att
open PySem PySem.W PySem.Calls PyProof.Rows
variable {h:Heap}
theorem ZNH {P:Params} :∀(ns:List Int) (vs:List Value),WellAll P h vs (ns.map WData.int)->IntsAre vs ns:=by
 intro ns
 induction ns with
 | nil=>
  intro vs w;rw [List.map_nil] at w;cases w;exact .nil
 | cons n ns ih=>
  intro vs w;rw [List.map_cons] at w;cases w with
  | cons a b=>
   cases a;exact .cons _ _ (ih _ b)
theorem ZNW {l:OpenLaw} {n:Nat} (hn:l.most=some n) {P:Params} {args:List WData} {vals:List Value}
  (hpre:l.row.toRowW.claim.pre args=true) (hwl:WellAll P h vals args):
  ∃a vs ns,vals= [Value.ref a]/\args= [WData.list (ns.map WData.int)]/\h.get? a=some {cls:=.type "list",data:=.seq vs.toArray}/\IntsAre vs ns/\ns.length<=n:=by
 have hsh:WShape.hasAll [] args [.list .int]=true:=(pre_splitW hpre).1;have hc:l.pre.holds [] {args:=args}=true:=(pre_splitW hpre).2;obtain ⟨d,r,rfl,h1,h2⟩:=hasAllW_cons hsh;obtain rfl:=hasAllW_nil h2;obtain ⟨xs,rfl,h3⟩:=hasW_list h1;obtain ⟨ns,rfl⟩:=items_int h3;have hlen:ns.length<=n:=by
  unfold OpenLaw.pre at hc;have h4:(WTm.not (.lt (.lit (.int (n:Int))) (.len (.arg 0)))).holds [] {args:= [.list (ns.map .int)]}=true:=by have h4:=(holds_andW hc).1;rw [hn] at h4;exact h4
  have h5:=condW_of h4 (w_not (w_lt w_lit (w_len_list (w_arg rfl))));rw [List.length_map] at h5;refine Nat.le_of_not_lt λq=> ?_
  have q':(n:Int) < ((ns.length:Nat):Int):=by lia
  first
   | (rw [decide_eq_true q'] at h5;exact absurd h5 (by decide))
   | (simp at h5;lia)
 cases hwl with
 | cons w1 w2=>
  cases w2;cases w1 with
  | list ho hall=>exact ⟨_,_,ns,rfl,rfl,ho,ZNH ns _ hall,hlen⟩
theorem ZNp (l:OpenLaw) (args:List WData):l.row.toRowW.claim.post args (.bool true) args=true:=
 postW_of (r:=l.row.toRowW) (X:=(true == true))
  (show WShape.has [] (.bool true) .bool=true by first | rfl | decide | simp [WShape.has,WShape.arms,WShape.armsAll])
  (show (WTm.eq .res (.lit (.bool true))).value [] {args:=args,res:=some (.bool true),after:=args}=some (.bool (true == true)) from w_eq_bool (w_res rfl) w_lit) rfl
theorem ZKw {l:OpenLaw} {n:Nat} {q:Program} {loose:List Str} {XP:(Str->Option Value)->Heap->Prop} {YP:World->Heap->Prop} {d:DefRec}
  (hn:l.most=some n) (hdf:d.params.defaults= [])
  (call:∀(w:World) (s₀ s₁:Shared) (mg mb:Str->Option Value) (fa:Addr) (o:Obj) (pm cd doc:Value) (a:Addr) (vs:List Value) (ns:List Int),
   Ground q loose [] XP w s₀ mg mb s₁.heap->YP w s₁.heap->
   s₁.heap.get? fa=some o->o.data=.func (docDef d.name d.params d.body d.scope pm cd doc)->s₁.heap.CodeRec cd d.name->mg d.name=some (.ref fa)->
   s₁.heap.get? a=some {cls:=.type "list",data:=.seq vs.toArray}->IntsAre vs ns->ns.length<=n->s₁.gens= #[]->
   codeAny (model l.prog w) callerA (.call (.ref fa) ⟨[.ref a],[]⟩) (λr s'=>r=.ok (.ret (.bool true))/\OldK s₁.heap s'.heap/\s'.os=s₁.os/\AllBare s'.gens) s₁):
  WalkO q loose XP YP l.row.toRowW d [] (λf vs=>PySem.call f vs):=by
 intro w s₀ s₁ mg mb G Y fa o pm cd doc dV kV ho hd hcd hD hmg hg args vals as hpre hlay hrd hwl hlo;obtain rfl:dV=.none:=Dflts.none hD hdf;obtain rfl:kV=.none:=Dflts.noKw hD;obtain ⟨a,vs,ns,rfl,rfl,hobj,hints,hlen⟩:=ZNW hn hpre hwl;refine enter_call (codeAny_mono (call w s₀ s₁ mg mb fa o pm cd doc a vs ns G Y ho (fd_plain hd) hcd hmg hobj hints hlen hg) λr s' hq=> ?_);obtain ⟨rfl,h2,h3,h4⟩:=hq
 exact ⟨.inl ⟨.bool true,.bool true,[],rfl,λ_=>rfl,.bool true,ZNp l _,λ_=>⟨List.Pairwise.nil,λ_ hm=>(nomatch hm)⟩⟩,h2,h3,h4⟩
section
variable {prog:Program} {w:World} {A:Around} {E:Value->Shared->Prop} {s:Shared} {K:Frag}
noncomputable def ZA1 (h:Heap):Heap:={h with objs:= #[]}
theorem ZDl (h:Heap) (b:Addr):(ZA1 h).get? b=none:=by
 cases e:(ZA1 h).get? b with
 | none=>rfl
 | some o=>exact absurd (Heap.lt_size e) (Nat.not_lt_zero _)
noncomputable def ledger (h:Heap) (L d:Addr):List (Addr×Obj):=(List.range h.objs.size).filterMap λa=>if a=L∨a=d then none else (h.get? a).map λo=>(a,o)
theorem V3 {L d a:Addr} {o:Obj}:(a,o)∈ledger h L d↔a≠L/\a≠d/\h.get? a=some o:=by
 unfold ledger;rw [List.mem_filterMap];constructor
 ·rintro ⟨b,_,e⟩;split at e
  ·cases e
  ·rename_i hb;obtain ⟨o',ho,e'⟩:=Option.map_eq_some_iff.mp e;cases e';exact ⟨λq=>hb (.inl q),λq=>hb (.inr q),ho⟩
 ·rintro ⟨n1,n2,ho⟩;refine ⟨a,List.mem_range.mpr (Heap.lt_size ho),?_⟩
  rw [if_neg (show¬(a=L∨a=d) from λq=>q.elim n1 n2),ho] <;> rfl
theorem ZN4 {L:Addr} {m:Str->Option Value} (n:h.Ns L m):Fr (ZA1 h) L h m:=
 ⟨n,λb o e=>(by rw [ZDl] at e;cases e),Nat.zero_le _⟩
end
end Att
namespace L2
open PySem PySem.Spec PyProof.Rows
variable {k:Nat} {fd:FuncData} {x qual:Str} {st:Stmt} {f:Addr}
theorem Ru:∀{vs:List Value} {ns:List Int},IntsAre vs ns->Vals (ns.map V.int) vs
 | _,_,.nil=>.nil
 | _,_,.cons n t h=>.cons ⟨t,rfl⟩ (Ru h)
noncomputable def Only (H:Hp):Prop:=∀b,H b=none∨∃o xs,H b=some (.frz o (.lst xs))
theorem ZMI {P:Program} {w:World} {K:PySem.W.Frag} {mg mb:Str->Option Value} {CX:CXT} {fa a:Addr} {sp:Sp} {s₁:Shared} {vs:List Value} {ns:List Int}
  (KX:K.In s₁.heap) (hns:s₁.heap.Ns mainGlobals mg) (hb:s₁.heap.Ns builtinsNs mb) (hbb:∀x:Str,x≠"__name__"->mb x=bootBuiltins x) (hlim:s₁.heap.NoLimit) (hg:s₁.gens= #[])
  (ha:s₁.heap.get? a=some {cls:=.type "list",data:=.seq vs.toArray}) (hi:IntsAre vs ns) (hl:ns.length<=sizeLine) (hr:Room k callerA)
  (F:∀base:Heap,K.In base->base.Ns mainGlobals mg->FnOk P w K mg base CX k fa fd [x] sp) (hbind:∀(s:Shared) (u:Value),BindsTo s fd ⟨[u],[]⟩ [(x,u)])
  (hsp:∀H:Hp,Only H->SqL K H a (ns.map V.int)->sp [.ref a] H (λv _=>v=.bl true) λ_ _ _=>False)
  (hCX:∀H e s',CX [] H s₁ (λ_ _ _=>False) e s'->False):
  codeAny (model P w) callerA (.call (.ref fa) ⟨[.ref a],[]⟩) (λr s'=>r=.ok (.ret (.bool true))/\OldK s₁.heap s'.heap/\s'.os=s₁.os/\AllBare s'.gens) s₁:=by
 have rv:=Ru hi;have lenV:=hi.length;have core:∀H:Hp,Only H->SqL K H a (ns.map V.int)->HOk P w H s₁.heap->(∀b,H b≠none->b=a)->(H a≠none->K.lookup a=none)->
   codeAny (model P w) callerA (.call (.ref fa) ⟨[.ref a],[]⟩) (λr s'=>r=.ok (.ret (.bool true))/\OldK s₁.heap s'.heap/\s'.os=s₁.os/\AllBare s'.gens) s₁:=by
  intro H hO hS hok hA hK;have base_of:∀{b:Addr} {o:Obj},s₁.heap.get? b=some o->H b=none->(K7 s₁.heap H).get? b=some o:=λe n=>ZRX e n
  have noA:∀{b:Addr} {o:Obj} {es:Array DictEntry} {ep:Nat},s₁.heap.get? b=some o->o.data=.dict es ep->H b=none:=λ{b o es ep} e d=>by
   cases q:H b with
   | none=>rfl
   | some u=>
    have e':b=a:=hA b (by rw [q];simp);subst e';rw [ha] at e;cases e;have d':Data.seq vs.toArray _=Data.dict es ep:=d;cases d'
  have nsK:∀{b:Addr} {m:Str->Option Value},s₁.heap.Ns b m->(K7 s₁.heap H).Ns b m:=λ{b m} ⟨o,es,ep,e,d,r⟩=>⟨o,es,ep,base_of e (noA e d),d,r⟩
  have hKb:K.In (K7 s₁.heap H):=λb o e=>base_of (KX b o e) (by
   cases q:H b with
   | none=>rfl
   | some u=>
    have e':b=a:=hA b (by rw [q];simp);subst e';rw [hK (by rw [q];simp)] at e;cases e)
  have hM:Mod K mg (K7 s₁.heap H):=⟨hKb,nsK hns,⟨mb,nsK hb,hbb⟩,let ⟨mc,h1,h2⟩:=hlim;⟨mc,nsK h1,h2⟩⟩
  have e0:Env0 P w K mg (K7 s₁.heap H) callerA [] s₁ H:=⟨rfl,hM,λb o e=>ZMo e,Nat.le_of_eq (ZSc _ _),trivial,λb hb=>absurd (show b∈([]:List Addr) from hb) (by simp),hok,.of_eq hg⟩
  refine codeAny_mono ((F _ hKb (nsK hns)).run callerA [] s₁ H ⟨[.ref a],[]⟩ [.ref a] [.ref a] _ _ hr e0 (hbind s₁ (.ref a)) (.cons rfl .nil) (hsp H hO hS)) λr s' h=> ?_
  cases r with
  | error e=>exact (hCX H e s' h).elim
  | ok fl=>
   cases fl with
   | next=>exact False.elim h
   | brk=>exact False.elim h
   | cont=>exact False.elim h
   | ret u=>
    obtain ⟨v,H',os,bare,un,hok',r',q⟩:=h;have q':v=.bl true:=q;subst q';obtain rfl:u=Value.bool true:=r';refine ⟨rfl,OldK.of_keep λb o e=> ?_,os,bare⟩;cases q:H b with
    | none=>exact un.keep b o e q (by intro z;exact absurd (show b∈([]:List Addr) from z) (by simp)) (by simp)
    | some u=>
     rcases hO b with z | ⟨ob,xs,z⟩
     ·rw [q] at z;cases z
     ·have z2:=un.frzs b ob _ z;obtain ⟨e1,_⟩:=hok b _ z;obtain ⟨e2,_⟩:=hok' b _ z2;rw [e] at e1;cases e1;exact e2
 cases hk:K.lookup a with
 | some o=>
  have e:=KX a o hk;rw [ha] at e;cases e;refine core (λ_=>none) (λ_=>.inl rfl) (.inr ⟨_,vs.toArray,_,hk,rfl,rfl,rfl,by rw [List.size_toArray,lenV];exact hl,by simpa using rv⟩) (λb u z=>by have z':(none:Option HO)=some u:=z;cases z') (λb z=>absurd rfl z) λz=>absurd rfl z
 | none=>
  refine core (λb=>if b=a then some (.frz {cls:=.type "list",data:=.seq vs.toArray} (.lst (ns.map V.int))) else none) (λb=> ?_) (.inl (.inr ⟨{cls:=.type "list",data:=.seq vs.toArray},if_pos rfl⟩)) (λb u z=> ?_) (λb z=> ?_) λ_=>hk
  ·by_cases hb:b=a
   ·exact .inr ⟨_,_,if_pos hb⟩
   ·exact .inl (if_neg hb)
  ·by_cases hb:b=a
   ·have z':=(if_pos hb).symm.trans z;cases z';subst hb;exact ⟨ha,by rw [List.length_map];exact hl,vs,_,rv,ha⟩
   ·have z':=(if_neg hb).symm.trans z;cases z'
  ·by_cases hb:b=a
   ·exact hb
   ·exact absurd (if_neg hb) z
theorem ZN7 {l:PySem.W.OpenLaw} {n:Nat} {q:Program} {loose:List Str} {XP:(Str->Option Value)->Heap->Prop} {YP:World->Heap->Prop} {d:DefRec} {K:World->PySem.W.Frag} {CX:World->CXT} {sp:World->Sp} 
  (hn:l.most=some n) (hn2:n<=sizeLine) (hdf:d.params.defaults= []) (hr:Room k callerA)
  (hY:∀(w:World) (h:Heap),YP w h->(K w).In h)
  (F:∀(w:World) (mg:Str->Option Value) (fa:Addr) (h:Heap),(K w).In h->h.Ns mainGlobals mg->mg d.name=some (.ref fa)->
   ∃fd:FuncData,(∀(s:Shared) (u:Value),BindsTo s fd ⟨[u],[]⟩ [(x,u)])/\
    ∀base:Heap,(K w).In base->base.Ns mainGlobals mg->FnOk l.prog w (K w) mg base (CX w) k fa fd [x] (sp w))
  (hsp:∀(w:World) (H:Hp) (a:Addr) (ns:List Int),ns.length<=n->Only H->SqL (K w) H a (ns.map V.int)->sp w [.ref a] H (λv _=>v=.bl true) λ_ _ _=>False)
  (hCX:∀(w:World) (H:Hp) (s:Shared) (e:Value) (s':Shared),CX w [] H s (λ_ _ _=>False) e s'->False):
  PySem.W.WalkO q loose XP YP l.row.toRowW d [] (λf vs=>PySem.call f vs):=by
 refine Att.ZKw hn hdf λw s₀ s₁ mg mb fa o pm cd doc a vs ns G Y ho hd hcd hmg hobj hints hlen hg=> ?_
 have KX:=hY w _ Y;obtain ⟨fd,hb,hF⟩:=F w mg fa _ KX G.T.g hmg;exact ZMI KX G.T.g G.T.b G.T.builtins G.T.nolimit hg hobj hints (Nat.le_trans hlen hn2) hr hF hb (λH hO hS=>hsp w H a ns hlen hO hS) λH e s'=>hCX w H s₁ e s'
noncomputable def Mw (s:Stmt):Arguments:=match s with
 | .FunctionDef _ a _ _ _ _ _ _ _ _=>a
 | _=>{posonlyargs:= [],args:= [],vararg:=none,kwonlyargs:= [],kw_defaults:= [],kwarg:=none,defaults:= []}
noncomputable def Jy (s:Stmt):List Stmt:=match s with
 | .FunctionDef _ _ b _ _ _ _ _ _ _=>b
 | _=> []
noncomputable def Av (s:Stmt):Scope:=match s with
 | .FunctionDef _ _ _ _ _ _ sc _ _ _=>sc
 | _=>{kind:=.function,names:= [],isGenerator:=false,isCoroutine:=false}
noncomputable abbrev CX0:CXT:=λ_ _ _ _ _ _=>False
noncomputable abbrev E0:XK:=λ_ _ _=>False
theorem pass0 {X:Cx}:Passes CX0 X E0:=λ_ _ _ _ _ _ _ h=>h.elim
structure Fun (K:PySem.W.Frag) (x qual:Str) (st:Stmt) (f:Addr) (fd:FuncData):Prop where
 ex:∃(oc:Value) (od:Option Addr) (kV doc pm:Value) (an:Option Addr) (cdv ct:Value) (osl:Array (Option Value)),
  fd=PySem.W.fnOf x qual (Mw st) (Jy st) (Av st) .none kV doc pm an cdv ct/\K.lookup f=some ⟨oc,od,.func fd,osl⟩/\PySem.W.codeIn K cdv qual=true
 kp:PySem.W.keepIn K (.ref f)=true
section
variable {P:Program} {w:World} {K:PySem.W.Frag} {mg:Str->Option Value} {base:Heap}
theorem Fun.ok {N ps:List Str} {sp:Sp} (F:Fun K x qual st f fd) (S:FnScope N ps (Av st)) (len:∀vs H Q E,sp vs H Q E->vs.length=ps.length)
  (hbody:∀(cdv:Value) (A:Around) (outer:List Env) (s:Shared) (H:Hp) (vs:List V) (Q:VK) (E:XK),Room k (A.deeper (envOfC qual (Av st) s.heap.objs.size f cdv))->sp vs H Q E->
   ∃t,PSs (Nq CX0 P w K mg base N qual (Av st) f cdv A outer s H E).nox (Jy st) t/\t {nx:=λ_ H'=>Q .non H',rt:=Q} (start N vs) H):FnOk P w K mg base CX0 (k + 1) f fd ps sp:=by
 obtain ⟨oc,od,kV,doc,pm,an,cdv,ct,osl,rfl,lk,hcd⟩:=F.ex;refine ZRS lk hcd S len λA outer s H vs Q E hr hsp=> ?_
 obtain ⟨t,h,q⟩:=hbody cdv A outer s H vs Q E hr hsp;exact ⟨t,h.nox,q⟩
theorem Fun.binds {ps:List Str} (F:Fun K x qual st f fd)
  (h:∀(kV doc pm:Value) (an:Option Addr) (cdv ct:Value) (us:List Value),us.length=ps.length->bindArgs (PySem.W.fnOf x qual (Mw st) (Jy st) (Av st) .none kV doc pm an cdv ct) ⟨us,[]⟩=pure (ps.zip us)):Binds K fd ps []:=by
 obtain ⟨oc,od,kV,doc,pm,an,cdv,ct,osl,rfl,lk,hcd⟩:=F.ex;exact .all (h kV doc pm an cdv ct)
theorem ZHF {oc:Value} {od an:Option Addr} {osl:Array (Option Value)} {kV doc pm cdv ct:Value} (l:K.lookup f=some ⟨oc,od,.func (PySem.W.fnOf x qual (Mw st) (Jy st) (Av st) .none kV doc pm an cdv ct),osl⟩)
  (c:PySem.W.codeIn K cdv qual=true) (k:PySem.W.keepIn K (.ref f)=true):Fun K x qual st f (PySem.W.fnOf x qual (Mw st) (Jy st) (Av st) .none kV doc pm an cdv ct):=⟨⟨oc,od,kV,doc,pm,an,cdv,ct,osl,rfl,l,c⟩,k⟩
end
section
variable {X:Cx}
end
section
variable {κ:Type} [DecidableEq κ]
end
section
variable {P:Program} {w:World} {H:Hp} {h:Heap} {a:Addr}
end
section
variable {X:Cx} {pins:List (Addr×Obj)} {σ:St} {H:Hp} {s:Shared} {a:Addr} {y v:V} {u r:Value} {o:Option V} {A:Around} {E:Value->Shared->Prop}
end
section
variable {X:Cx} {pins:List (Addr×Obj)} {σ:St} {H:Hp} {s:Shared} {a:Addr} {kvs:List (Key×V)} {k:Key} {u:Value} {A:Around} {E:Value->Shared->Prop}
end
section
variable {X:Cx} {o i e value:Expr} {pos pos' tpos:Pos} {td ty tv:TE}
end
section
variable {X:Cx} {pos:Pos}
end
section
variable {X:Cx} {pins:List (Addr×Obj)} {σ:St} {H:Hp} {s:Shared} {a:Addr} {y d:V} {u r:Value} {o:Option V} {A:Around} {E:Value->Shared->Prop}
end
section
variable {X:Cx} {o e f:Expr} {apos cpos:Pos} {td ty tx:TE}
end
section
variable {X:Cx} {pins:List (Addr×Obj)} {σ:St} {H:Hp} {s:Shared} {a:Addr} {kvs:List (Key×V)} {A:Around} {E:Value->Shared->Prop}
end
section
variable {X:Cx} {pins:List (Addr×Obj)} {σ:St} {H:Hp} {s:Shared} {a:Addr} {y:V} {u:Value} {A:Around} {E:Value->Shared->Prop}
end
section
variable {X:Cx}
end
end L2
namespace L2
section
variable {κ:Type} [DecidableEq κ]
end
end L2
namespace DL
open PySem PySem.Spec L2
open PyProof.Rows hiding St
variable {α β:Type} {K:PySem.W.Frag} {H:Hp} {p:Addr} {v y:V} {vs:List V} {σ:St} {E:XK} {Q:VK} {W:Ends} {e tg:Expr} {ho:HO} {q:Option HO} {i j k nt:Nat} {x:Str} {A:Around} {s:Shared} {P:Program} {w:World} {scope:Scope} {env:Env} {X:Cx}
inductive D where
 | non | bl (b:Bool) | int (i:Int) | str (x:Str) | ty (n:String)
 | tup (xs:List D)
 | fl (xs:List D)
 | ref (i:Nat)
variable {d:D} {ds xs:List D}
inductive DO where
 | lst (xs:List D)
 | dct (kvs:List (Key×D))
 | ins (c:Str) (fs:List (Str×D))
 | tab (c m:Str)
 | gone
variable {o:DO}
noncomputable abbrev DH:=List DO
variable {G G' L:DH}
noncomputable abbrev DSt:=List (Option D)
variable {S:DSt}
structure Xn where
 cls:Str
 fs:List (Str×D)
inductive R (α:Type) where
 | ok (a:α) (G:DH)
 | err (x:Xn) (G:DH)
 | bad
variable {r:R D} {f:D->D->DH->R D}
noncomputable def R.bind {α β:Type} (r:R α) (f:α->DH->R β):R β:=match r with
 | .ok a G=>f a G
 | .err x G=>.err x G
 | .bad=>.bad
@[simp] theorem R.Lg (a:α) (G:DH) (f:α->DH->R β):(R.ok a G).bind f=f a G:=id rfl
@[simp] theorem R.ZUq (f:α->DH->R β):(R.bad:R α).bind f=.bad:=id rfl
inductive SR where
 | nx (S:DSt) (G:DH)
 | rt (d:D) (G:DH)
 | bk (S:DSt) (G:DH)
 | ct (S:DSt) (G:DH)
 | err (x:Xn) (G:DH)
 | bad
noncomputable abbrev DE:=DSt->DH->R D
variable {t te:DE}
noncomputable abbrev DB:=DSt->DH->R Bool
variable {c:DB}
noncomputable abbrev DA:=DSt->DH->R (List D)
noncomputable abbrev DS:=DSt->DH->SR
variable {u:DS}
noncomputable def FzL (K:PySem.W.Frag) (H:Hp) (a:Addr) (xs:List V):Prop:=
 (∃o,H a=some (.frz o (.lst xs)))∨
  ∃(o:Obj) (its:Array Value) (n:Nat),K.lookup a=some o/\o.cls=.type "list"/\o.dict=none/\o.data=.seq its n/\its.size<=sizeLine/\Vals xs its.toList
theorem FzL.sq {a:Addr} {xs:List V} (h:FzL K H a xs):SqL K H a xs:=by
 rcases h with ⟨o,h⟩ | h
 ·exact .inl (.inr ⟨o,h⟩)
 ·exact .inr h
structure Wd where
 K:PySem.W.Frag
 n:Nat
 m:Nat->Addr
 H:Hp
variable {a b:Wd}
mutual
noncomputable def Rep (a:Wd):D->V->Prop
 | .non,v=>v=.non
 | .bl b,v=>v=.bl b
 | .int i,v=>v=.int i
 | .str x,v=>v=.str x
 | .ty n,v=>v=.ty n
 | .tup ds,v=>∃p vs,v=.ref p/\SqT a.K a.H p vs/\Reps a ds vs
 | .fl ds,v=>∃p vs,v=.ref p/\FzL a.K a.H p vs/\Reps a ds vs
 | .ref i,v=>i < a.n/\v=.ref (a.m i)
noncomputable def Reps (a:Wd):List D->List V->Prop
 | [],vs=>vs= []
 | d::ds,vs=>∃v r,vs=v::r/\Rep a d v/\Reps a ds r
end
noncomputable def lamQ:Str:="Sending.send_by.<locals>.<lambda>"
noncomputable def TabOk (H:Hp) (P:Addr):Prop:=
 ∃ps:Array Value,H P=some (.tbl ps)/\TriplesOk ps.toList/\∀pos cv,codeAmong pos ps.toList=some cv->∃(c:Addr) (oc:Obj) (vs:Array Value) (t:Tok),cv=.ref c/\H c=some (.frz oc (.own 0))/\oc.data=.fields vs/\vs[1]? =some (.str lamQ t)
theorem TabOk.mono {H':Hp} {P:Addr} (h:TabOk H P) (ht:∀p ps,H p=some (.tbl ps)->H' p=some (.tbl ps)) (hf:∀p o u,H p=some (.frz o u)->H' p=some (.frz o u)):TabOk H' P:=by obtain ⟨ps,e,t,k⟩:=h;refine ⟨ps,ht _ _ e,t,λpos cv hc=> ?_⟩;obtain ⟨c,oc,vs,tk,e1,e2,e3,e4⟩:=k pos cv hc;exact ⟨c,oc,vs,tk,e1,hf _ _ _ e2,e3,e4⟩
noncomputable def TabAt (K:PySem.W.Frag) (C m:Str) (c P:Addr):Prop:=
 ∃(Ca f:Addr) (oc:Value) (od:Option Addr) (fd:FuncData) (sl:Array (Option Value)),PySem.W.nsIn K mainGlobals C=some (some (.ref Ca))/\PySem.W.findIn K (.ref Ca) m=some (some (.ref f))/\K.lookup f=some ⟨oc,od,.func fd,sl⟩/\fd.code=.ref c/\PySem.W.codeHdIn K c P=true
structure Ext (a b:Wd):Prop where
 k:b.K=a.K
 n:a.n<=b.n
 m:∀i,i < a.n->b.m i=a.m i
 tup:∀p xs,a.H p=some (.tup xs)->b.H p=some (.tup xs)
 frz:∀p o u,a.H p=some (.frz o u)->b.H p=some (.frz o u)
 tab:∀p,TabOk a.H p->TabOk b.H p
theorem Ext.refl (a:Wd):Ext a a:=⟨rfl,Nat.le_refl _,λ_ _=>rfl,λ_ _ h=>h,λ_ _ _ h=>h,λ_ h=>h⟩
theorem Ext.trans {c:Wd} (x:Ext a b) (y:Ext b c):Ext a c:=
 ⟨y.k.trans x.k,Nat.le_trans x.n y.n,λi h=>(y.m i (Nat.lt_of_lt_of_le h x.n)).trans (x.m i h),λp xs h=>y.tup p xs (x.tup p xs h),λp o u h=>y.frz p o u (x.frz p o u h),λp h=>y.tab p (x.tab p h)⟩
theorem Ext.sqT (x:Ext a b) {xs:List V} (h:SqT a.K a.H p xs):SqT b.K b.H p xs:=by
 rcases h with (h | ⟨o,h⟩) | h
 ·exact .inl (.inl (x.tup _ _ h))
 ·exact .inl (.inr ⟨o,x.frz _ _ _ h⟩)
 ·exact .inr (by rw [x.k];exact h)
theorem Ext.fzL (x:Ext a b) {xs:List V} (h:FzL a.K a.H p xs):FzL b.K b.H p xs:=by
 rcases h with ⟨o,h⟩ | h
 ·exact .inl ⟨o,x.frz _ _ _ h⟩
 ·exact .inr (by rw [x.k];exact h)
mutual
theorem Rep.mono (x:Ext a b):∀{d:D} {v:V},Rep a d v->Rep b d v
 | .non,_,h=>h
 | .bl _,_,h=>h
 | .int _,_,h=>h
 | .str _,_,h=>h
 | .ty _,_,h=>h
 | .tup ds,v,h=>by obtain ⟨p,vs,e,q,r⟩:=h;exact ⟨p,vs,e,x.sqT q,Reps.mono x r⟩
 | .fl ds,v,h=>by obtain ⟨p,vs,e,q,r⟩:=h;exact ⟨p,vs,e,x.fzL q,Reps.mono x r⟩
 | .ref i,v,h=>by obtain ⟨l,e⟩:=h;exact ⟨Nat.lt_of_lt_of_le l x.n,by rw [x.m i l];exact e⟩
theorem Reps.mono (x:Ext a b):∀{ds:List D} {vs:List V},Reps a ds vs->Reps b ds vs
 | [],_,h=>h
 | d::ds,vs,h=>by obtain ⟨v,r,e,h1,h2⟩:=h;exact ⟨v,r,e,Rep.mono x h1,Reps.mono x h2⟩
end
theorem Reps.length:∀{ds:List D} {vs:List V},Reps a ds vs->ds.length=vs.length
 | [],vs,h=>by cases (show vs= [] from h);rfl
 | d::ds,vs,h=>by obtain ⟨v,r,e,h1,h2⟩:=h;subst e;show ds.length + 1=r.length + 1;rw [Reps.length h2]
theorem Reps.get:∀{ds:List D} {vs:List V} {i:Nat} {d:D},Reps a ds vs->ds[i]? =some d->∃v,vs[i]? =some v/\Rep a d v
 | [],vs,_,_,h,e=>by simp at e
 | d::ds,vs,0,d',h,e=>by obtain ⟨v,r,e1,h1,h2⟩:=h;subst e1;simp at e;subst e;exact ⟨v,rfl,h1⟩
 | d::ds,vs,i + 1,d',h,e=>by obtain ⟨v,r,e1,h1,h2⟩:=h;subst e1;obtain ⟨w,e2,h3⟩:=Reps.get (i:=i) (d:=d') h2 (by simpa using e);exact ⟨w,by simpa using e2,h3⟩
theorem Reps.get':∀{ds:List D} {vs:List V} {i:Nat} {v:V},Reps a ds vs->vs[i]? =some v->∃d,ds[i]? =some d/\Rep a d v
 | [],vs,_,_,h,e=>by cases (show vs= [] from h);simp at e
 | d::ds,vs,0,v',h,e=>by obtain ⟨v,r,e1,h1,h2⟩:=h;subst e1;simp at e;subst e;exact ⟨d,rfl,h1⟩
 | d::ds,vs,i + 1,v',h,e=>by obtain ⟨v,r,e1,h1,h2⟩:=h;subst e1;obtain ⟨w,e2,h3⟩:=Reps.get' (i:=i) (v:=v') h2 (by simpa using e);exact ⟨w,by simpa using e2,h3⟩
theorem Reps.append:∀{ds es:List D} {vs us:List V},Reps a ds vs->Reps a es us->Reps a (ds++es) (vs++us)
 | [],_,vs,_,h,h'=>by cases (show vs= [] from h);exact h'
 | d::ds,es,vs,us,h,h'=>by obtain ⟨v,r,e1,h1,h2⟩:=h;subst e1;exact ⟨v,r++us,rfl,h1,Reps.append h2 h'⟩
theorem Reps.cons (h:Rep a d v) (r:Reps a ds vs):Reps a (d::ds) (v::vs):=⟨v,vs,rfl,h,r⟩
theorem Reps.nil:Reps a [] []:=rfl
theorem Reps.set (h:Rep a d v):∀{ds:List D} {vs:List V} (i:Nat),Reps a ds vs->Reps a (ds.set i d) (vs.set i v)
 | [],vs,_,r=>by cases (show vs= [] from r);exact rfl
 | d'::ds,vs,0,r=>by obtain ⟨v',r',e1,h1,h2⟩:=r;subst e1;exact ⟨v,r',rfl,h,h2⟩
 | d'::ds,vs,i + 1,r=>by obtain ⟨v',r',e1,h1,h2⟩:=r;subst e1;exact ⟨v',r'.set i v,rfl,h1,Reps.set h i h2⟩
theorem Reps.take:∀{ds:List D} {vs:List V} (i:Nat),Reps a ds vs->Reps a (ds.take i) (vs.take i)
 | _,_,0,_=>rfl
 | [],vs,_ + 1,r=>by cases (show vs= [] from r);exact rfl
 | d'::ds,vs,i + 1,r=>by obtain ⟨v',r',e1,h1,h2⟩:=r;subst e1;exact ⟨v',r'.take i,rfl,h1,Reps.take i h2⟩
theorem Reps.drop:∀{ds:List D} {vs:List V} (i:Nat),Reps a ds vs->Reps a (ds.drop i) (vs.drop i)
 | _,_,0,r=>r
 | [],vs,_ + 1,r=>by cases (show vs= [] from r);exact rfl
 | d'::ds,vs,i + 1,r=>by obtain ⟨v',r',e1,h1,h2⟩:=r;subst e1;exact Reps.drop i h2
theorem Reps.ints:∀(ns:List Int),Reps a (ns.map D.int) (ns.map V.int)
 | []=>rfl
 | n::ns=>⟨.int n,ns.map V.int,rfl,rfl,Reps.ints ns⟩
noncomputable def RepKV (a:Wd) (kvs:List (Key×D)) (us:List (Key×V)):Prop:=kvs.map (·.1)=us.map (·.1)/\Reps a (kvs.map (·.2)) (us.map (·.2))
noncomputable def RepF (a:Wd) (fs:List (Str×D)) (us:List (Str×V)):Prop:=fs.map (·.1)=us.map (·.1)/\Reps a (fs.map (·.2)) (us.map (·.2))
noncomputable def ORep (a:Wd):DO->Option HO->Prop
 | .lst ds,o=>∃vs,o=some (.lst vs)/\Reps a ds vs
 | .dct kvs,o=>∃us,o=some (.dK us)/\RepKV a kvs us
 | .ins c fs,o=>∃C dx us,PySem.W.nsIn a.K mainGlobals c=some (some (.ref C))/\o=some (.ins C dx us)/\RepF a fs us
 | .tab C m,_=>∃c P,TabAt a.K C m c P/\TabOk a.H P
 | .gone,_=>True
structure Sim (a:Wd) (G:DH):Prop where
 len:G.length=a.n
 inj:∀i j,i < a.n->j < a.n->a.m i=a.m j->i=j
 obj:∀(i:Nat) (o:DO),G[i]? =some o->ORep a o (a.H (a.m i))
 tr:∀i,i < a.n->a.H (a.m i)≠none
structure RepS (a:Wd) (S:DSt) (σ:St):Prop where
 len:S.length=σ.length
 get:∀(i:Nat) (d:D),S[i]? =some (some d)->∃v,σ[i]? =some (some v)/\Rep a d v
theorem RepS.mono (x:Ext a b) (r:RepS a S σ):RepS b S σ:=⟨r.len,λi d h=>let ⟨v,e,q⟩:=r.get i d h;⟨v,e,q.mono x⟩⟩
theorem RepS.set (r:RepS a S σ) (i:Nat) (h:Rep a d v):RepS a (S.set i (some d)) (σ.set i (some v)):=by
 refine ⟨by simpa using r.len,λj e he=> ?_⟩;rw [List.getElem?_set] at he ⊢;by_cases hij:i=j
 ·subst hij;rw [if_pos rfl] at he ⊢;by_cases hl:i < S.length
  ·rw [if_pos hl] at he;have e1:d=e:=by simpa using he
   subst e1;rw [if_pos (by rw [<-r.len];exact hl)];exact ⟨v,rfl,h⟩
  ·rw [if_neg hl] at he;cases he
 ·rw [if_neg hij] at he ⊢;exact r.get j e he
noncomputable def XOk (E:XK) (a:Wd) (x:Xn) (G:DH):Prop:=False
noncomputable def out (E:XK) (a:Wd) (r:R D) (Q:VK):Prop:=match r with
 | .ok d G=>∀(b:Wd) (v:V),Ext a b->Sim b G->Rep b d v->Q v b.H
 | .err x G=>XOk E a x G
 | .bad=>False
noncomputable def Gi (E:XK) (a:Wd) (r:R Bool) (Q:Bool->Hp->Prop):Prop:=match r with
 | .ok k G=>∀(b:Wd),Ext a b->Sim b G->Q k b.H
 | .err x G=>XOk E a x G
 | .bad=>False
noncomputable def Gk (E:XK) (a:Wd) (r:R (List D)) (Q:List V->Hp->Prop):Prop:=match r with
 | .ok ds G=>∀(b:Wd) (vs:List V),Ext a b->Sim b G->Reps b ds vs->Q vs b.H
 | .err x G=>XOk E a x G
 | .bad=>False
noncomputable def Cw (E:XK) (a:Wd) (r:SR) (W:Ends):Prop:=match r with
 | .nx S G=>∀(b:Wd) (σ:St),Ext a b->Sim b G->RepS b S σ->W.nx σ b.H
 | .bk S G=>∀(b:Wd) (σ:St),Ext a b->Sim b G->RepS b S σ->W.bk σ b.H
 | .ct S G=>∀(b:Wd) (σ:St),Ext a b->Sim b G->RepS b S σ->W.ct σ b.H
 | .rt d G=>∀(b:Wd) (v:V),Ext a b->Sim b G->Rep b d v->W.rt v b.H
 | .err x G=>XOk E a x G
 | .bad=>False
theorem XOk.mono (x:Ext a b) {e:Xn} (h:XOk E a e G):XOk E b e G:=h
theorem out.mono (x:Ext a b) (h:out E a r Q):out E b r Q:=by
 cases r with
 | ok d G=>exact λc v y s q=>h c v (x.trans y) s q
 | err e G=>exact XOk.mono (E:=E) (e:=e) (G:=G) x h
 | bad=>exact h
theorem Gi.mono (x:Ext a b) {r:R Bool} {Q:Bool->Hp->Prop} (h:Gi E a r Q):Gi E b r Q:=by
 cases r with
 | ok d G=>exact λc y s=>h c (x.trans y) s
 | err e G=>exact XOk.mono (E:=E) (e:=e) (G:=G) x h
 | bad=>exact h
theorem Gk.mono (x:Ext a b) {r:R (List D)} {Q:List V->Hp->Prop} (h:Gk E a r Q):Gk E b r Q:=by
 cases r with
 | ok d G=>exact λc vs y s q=>h c vs (x.trans y) s q
 | err e G=>exact XOk.mono (E:=E) (e:=e) (G:=G) x h
 | bad=>exact h
theorem Cw.mono (x:Ext a b) {r:SR} (h:Cw E a r W):Cw E b r W:=by
 cases r with
 | nx d G=>exact λc vs y s q=>h c vs (x.trans y) s q
 | bk d G=>exact λc vs y s q=>h c vs (x.trans y) s q
 | ct d G=>exact λc vs y s q=>h c vs (x.trans y) s q
 | rt d G=>exact λc vs y s q=>h c vs (x.trans y) s q
 | err e G=>exact XOk.mono (E:=E) (e:=e) (G:=G) x h
 | bad=>exact h
noncomputable def lE (K:PySem.W.Frag) (E:XK) (t:DE):TE:=λσ H Q=>∃(a:Wd) (S:DSt) (G:DH),a.K=K/\a.H=H/\Sim a G/\RepS a S σ/\out E a (t S G) Q
noncomputable def lB (K:PySem.W.Frag) (E:XK) (t:DB):TT:=λσ H Q=>∃(a:Wd) (S:DSt) (G:DH),a.K=K/\a.H=H/\Sim a G/\RepS a S σ/\Gi E a (t S G) Q
noncomputable def lA (K:PySem.W.Frag) (E:XK) (t:DA):TA:=λσ H Q=>∃(a:Wd) (S:DSt) (G:DH),a.K=K/\a.H=H/\Sim a G/\RepS a S σ/\Gk E a (t S G) Q
noncomputable def lS (K:PySem.W.Frag) (E:XK) (t:DS):TS:=λW σ H=>∃(a:Wd) (S:DSt) (G:DH),a.K=K/\a.H=H/\Sim a G/\RepS a S σ/\Cw E a (t S G) W
noncomputable def lR2 (K:PySem.W.Frag) (E:XK) (f:D->D->DH->R D):R2:=λx y H Q=>∃(a:Wd) (G:DH) (d e:D),a.K=K/\a.H=H/\Sim a G/\Rep a d x/\Rep a e y/\out E a (f d e G) Q
noncomputable def lR1 (K:PySem.W.Frag) (E:XK) (f:D->DH->R D):V->Hp->VK->Prop:=λx H Q=>∃(a:Wd) (G:DH) (d:D),a.K=K/\a.H=H/\Sim a G/\Rep a d x/\out E a (f d G) Q
noncomputable def lRn (K:PySem.W.Frag) (E:XK) (f:List D->DH->R D):List V->Hp->VK->Prop:=λxs H Q=>∃(a:Wd) (G:DH) (ds:List D),a.K=K/\a.H=H/\Sim a G/\Reps a ds xs/\out E a (f ds G) Q
noncomputable def lF (K:PySem.W.Frag) (f:List D->DH->R D):Sp:=λxs H Q E=>∃(a:Wd) (G:DH) (ds:List D),a.K=K/\a.H=H/\Sim a G/\Reps a ds xs/\out E a (f ds G) Q
section
variable {X:Cx} {E:XK}
noncomputable def QE (X:Cx) (E:XK) (e:Expr) (t:DE):Prop:=PE X e (lE X.K E t)
noncomputable def QT (X:Cx) (E:XK) (e:Expr) (t:DB):Prop:=PT X e (lB X.K E t)
noncomputable def QA (X:Cx) (E:XK) (es:List Expr) (t:DA):Prop:=PA X es (lA X.K E t)
noncomputable def QS (X:Cx) (E:XK) (st:Stmt) (t:DS):Prop:=PS X st (lS X.K E t)
noncomputable def QSs (X:Cx) (E:XK) (st:List Stmt) (t:DS):Prop:=PSs X st (lS X.K E t)
theorem _root_.L2.PE.mono {t t':TE} (h:PE X e t) (w:∀σ H Q,t' σ H Q->t σ H Q):PE X e t':=λpins s σ H Q I q=>h pins s σ H Q I (w σ H Q q)
theorem _root_.L2.PT.mono {t t':TT} (h:PT X e t) (w:∀σ H Q,t' σ H Q->t σ H Q):PT X e t':=λpins s σ H Q I q=>h pins s σ H Q I (w σ H Q q)
theorem _root_.L2.PA.mono {e:List Expr} {t t':TA} (h:PA X e t) (w:∀σ H Q,t' σ H Q->t σ H Q):PA X e t':=λpos pins s σ H Q I q=>h pos pins s σ H Q I (w σ H Q q)
theorem _root_.L2.PS.mono {e:Stmt} {t t':TS} (h:PS X e t) (w:∀W σ H,t' W σ H->t W σ H):PS X e t':=λpins s σ H W I q=>h pins s σ H W I (w W σ H q)
theorem _root_.L2.PSs.mono {e:List Stmt} {t t':TS} (h:PSs X e t) (w:∀W σ H,t' W σ H->t W σ H):PSs X e t':=λpins s σ H W I q=>h pins s σ H W I (w W σ H q)
theorem _root_.L2.OpR.mono {f:Value->Value->Sem Value} {r r':R2} (h:OpR X f r) (w:∀x y H Q,r' x y H Q->r x y H Q):OpR X f r':=λpins s σ H x y v u Q I rx ry q=>h pins s σ H x y v u Q I rx ry (w _ _ _ _ q)
end
theorem Ge {f:D->DH->R D} (h:out E a (r.bind f) Q):
  out E a r (λv H=>∃(b:Wd) (d:D) (G:DH),b.H=H/\Ext a b/\Sim b G/\Rep b d v/\r=.ok d G/\out E b (f d G) Q):=by
 cases r with
 | ok d G=>exact λb v x s q=>⟨b,d,G,rfl,x,s,q,rfl,out.mono x h⟩
 | err e G=>exact h
 | bad=>exact h
theorem Ny {r:R (List D)} {f:List D->DH->R D} (h:out E a (r.bind f) Q):
  Gk E a r (λvs H=>∃(b:Wd) (ds:List D) (G:DH),b.H=H/\Ext a b/\Sim b G/\Reps b ds vs/\r=.ok ds G/\out E b (f ds G) Q):=by
 cases r with
 | ok d G=>exact λb v x s q=>⟨b,d,G,rfl,x,s,q,rfl,out.mono x h⟩
 | err e G=>exact h
 | bad=>exact h
theorem ZF5 {r:R Bool} {f:Bool->DH->R D} (h:out E a (r.bind f) Q):
  Gi E a r (λk H=>∃(b:Wd) (G:DH),b.H=H/\Ext a b/\Sim b G/\r=.ok k G/\out E b (f k G) Q):=by
 cases r with
 | ok d G=>exact λb x s=>⟨b,G,rfl,x,s,rfl,out.mono x h⟩
 | err e G=>exact h
 | bad=>exact h
theorem ZNd {f:D->DH->R Bool} {Q:Bool->Hp->Prop} (h:Gi E a (r.bind f) Q):
  out E a r (λv H=>∃(b:Wd) (d:D) (G:DH),b.H=H/\Ext a b/\Sim b G/\Rep b d v/\r=.ok d G/\Gi E b (f d G) Q):=by
 cases r with
 | ok d G=>exact λb v x s q=>⟨b,d,G,rfl,x,s,q,rfl,Gi.mono x h⟩
 | err e G=>exact h
 | bad=>exact h
theorem ZDs {r:R Bool} {f:Bool->DH->R Bool} {Q:Bool->Hp->Prop} (h:Gi E a (r.bind f) Q):
  Gi E a r (λk H=>∃(b:Wd) (G:DH),b.H=H/\Ext a b/\Sim b G/\r=.ok k G/\Gi E b (f k G) Q):=by
 cases r with
 | ok d G=>exact λb x s=>⟨b,G,rfl,x,s,rfl,Gi.mono x h⟩
 | err e G=>exact h
 | bad=>exact h
theorem ZOJ {f:D->DH->R (List D)} {Q:List V->Hp->Prop} (h:Gk E a (r.bind f) Q):
  out E a r (λv H=>∃(b:Wd) (d:D) (G:DH),b.H=H/\Ext a b/\Sim b G/\Rep b d v/\r=.ok d G/\Gk E b (f d G) Q):=by
 cases r with
 | ok d G=>exact λb v x s q=>⟨b,d,G,rfl,x,s,q,rfl,Gk.mono x h⟩
 | err e G=>exact h
 | bad=>exact h
theorem ZPc {r:R (List D)} {f:List D->DH->R (List D)} {Q:List V->Hp->Prop} (h:Gk E a (r.bind f) Q):
  Gk E a r (λvs H=>∃(b:Wd) (ds:List D) (G:DH),b.H=H/\Ext a b/\Sim b G/\Reps b ds vs/\r=.ok ds G/\Gk E b (f ds G) Q):=by
 cases r with
 | ok d G=>exact λb v x s q=>⟨b,d,G,rfl,x,s,q,rfl,Gk.mono x h⟩
 | err e G=>exact h
 | bad=>exact h
noncomputable def R.toS {α:Type} (r:R α) (f:α->DH->SR):SR:=match r with
 | .ok a G=>f a G
 | .err x G=>.err x G
 | .bad=>.bad
@[simp] theorem R.Dj (a:α) (G:DH) (f:α->DH->SR):(R.ok a G).toS f=f a G:=id rfl
@[simp] theorem R.ZUG (f:α->DH->SR):(R.bad:R α).toS f=.bad:=id rfl
theorem Hk {f:D->DH->SR} (h:Cw E a (r.toS f) W):
  out E a r (λv H=>∃(b:Wd) (d:D) (G:DH),b.H=H/\Ext a b/\Sim b G/\Rep b d v/\r=.ok d G/\Cw E b (f d G) W):=by
 cases r with
 | ok d G=>exact λb v x s q=>⟨b,d,G,rfl,x,s,q,rfl,Cw.mono x h⟩
 | err e G=>exact h
 | bad=>exact h
theorem ZJs {r:R Bool} {f:Bool->DH->SR} (h:Cw E a (r.toS f) W):
  Gi E a r (λk H=>∃(b:Wd) (G:DH),b.H=H/\Ext a b/\Sim b G/\r=.ok k G/\Cw E b (f k G) W):=by
 cases r with
 | ok d G=>exact λb x s=>⟨b,G,rfl,x,s,rfl,Cw.mono x h⟩
 | err e G=>exact h
 | bad=>exact h
section
theorem out.imp {Q':VK} (h:out E a r Q) (w:∀v H,Q v H->Q' v H):out E a r Q':=by
 cases r with
 | ok d G=>exact λb v x s q=>w _ _ (h b v x s q)
 | err e G=>exact h
 | bad=>exact h
theorem Gk.imp {r:R (List D)} {Q Q':List V->Hp->Prop} (h:Gk E a r Q) (w:∀v H,Q v H->Q' v H):Gk E a r Q':=by
 cases r with
 | ok d G=>exact λb v x s q=>w _ _ (h b v x s q)
 | err e G=>exact h
 | bad=>exact h
theorem Gi.imp {r:R Bool} {Q Q':Bool->Hp->Prop} (h:Gi E a r Q) (w:∀v H,Q v H->Q' v H):Gi E a r Q':=by
 cases r with
 | ok d G=>exact λb x s=>w _ _ (h b x s)
 | err e G=>exact h
 | bad=>exact h
noncomputable def Wd.push (a:Wd) (p:Addr) (ho:HO):Wd:=⟨a.K,a.n + 1,λk=>if k=a.n then p else a.m k,upd a.H p ho⟩
noncomputable def Wd.put (a:Wd) (p:Addr) (ho:HO):Wd:={a with H:=upd a.H p ho}
theorem Ext.put (h:a.H p=none):Ext a (a.put p ho):=
 ⟨rfl,Nat.le_refl _,λ_ _=>rfl,λq xs e=>by show upd a.H p ho q=_;rw [Az (Ht e h)];exact e,λq o u e=>by show upd a.H p ho q=_;rw [Az (Ht e h)];exact e,λ_ t=>t.mono (λq ps e=>by show upd a.H p ho q=_;rw [Az (Ht e h)];exact e) (λq o u e=>by show upd a.H p ho q=_;rw [Az (Ht e h)];exact e)⟩
theorem Ext.push (h:a.H p=none):Ext a (a.push p ho):=
 ⟨rfl,Nat.le_succ _,λi hi=>by show (if i=a.n then p else a.m i)=a.m i;rw [if_neg (Nat.ne_of_lt hi)],λq xs e=>by show upd a.H p ho q=_;rw [Az (Ht e h)];exact e,λq o u e=>by show upd a.H p ho q=_;rw [Az (Ht e h)];exact e,λ_ t=>t.mono (λq ps e=>by show upd a.H p ho q=_;rw [Az (Ht e h)];exact e) (λq o u e=>by show upd a.H p ho q=_;rw [Az (Ht e h)];exact e)⟩
theorem ORep.mono (x:Ext a b) (h:ORep a o q):ORep b o q:=by
 cases o with
 | lst ds=>obtain ⟨vs,e,r⟩:=h;exact ⟨vs,e,r.mono x⟩
 | dct kvs=>obtain ⟨us,e,k,r⟩:=h;exact ⟨us,e,k,r.mono x⟩
 | ins c fs=>obtain ⟨C,dx,us,n,e,k,r⟩:=h;exact ⟨C,dx,us,by rw [x.k];exact n,e,k,r.mono x⟩
 | tab C m=>obtain ⟨c,P,e,t⟩:=h;exact ⟨c,P,by rw [x.k];exact e,x.tab _ t⟩
 | gone=>trivial
theorem Sim.lt (s:Sim a G) (h:G[i]? =some o):i < a.n:=by rw [<-s.len];exact (List.getElem?_eq_some_iff.mp h).1
theorem Sim.put (s:Sim a G) (h:a.H p=none):Sim (a.put p ho) G:=by
 refine ⟨s.len,s.inj,λi o e=> ?_,λi hi=> ?_⟩
 ·have z:a.H (a.m i)≠none:=s.tr i (s.lt e);have ne:a.m i≠p:=λq=>z (by rw [q];exact h)
  show ORep _ o (upd a.H p ho (a.m i));rw [Az ne];exact (s.obj i o e).mono (Ext.put h)
 ·have z:a.H (a.m i)≠none:=s.tr i hi;have ne:a.m i≠p:=λq=>z (by rw [q];exact h)
  show upd a.H p ho (a.m i)≠none;rw [Az ne];exact z
theorem Sim.push (s:Sim a G) (h:a.H p=none) (r:ORep (a.push p ho) o (some ho)):Sim (a.push p ho) (G++ [o]):=by
 have nep:∀i,i < a.n->a.m i≠p:=λi hi q=>s.tr i hi (by rw [q];exact h)
 have old:∀i,i < a.n->(a.push p ho).m i=a.m i:=λi hi=>by show (if i=a.n then p else a.m i)=_;rw [if_neg (Nat.ne_of_lt hi)]
 have new:(a.push p ho).m a.n=p:=by show (if a.n=a.n then p else a.m a.n)=_;rw [if_pos rfl]
 refine ⟨by simp [s.len,Wd.push],λi j hi hj e=> ?_,λi u e=> ?_,λi hi=> ?_⟩
 ·have hi':i < a.n + 1:=hi;have hj':j < a.n + 1:=hj;by_cases h1:i < a.n
  ·by_cases h2:j < a.n
   ·rw [old i h1,old j h2] at e;exact s.inj i j h1 h2 e
   ·have:j=a.n:=by lia
    subst this;rw [old i h1,new] at e;exact absurd e (nep i h1)
  ·have:i=a.n:=by lia
   subst this;by_cases h2:j < a.n
   ·rw [old j h2,new] at e;exact absurd e.symm (nep j h2)
   ·lia
 ·by_cases h1:i < a.n
  ·rw [List.getElem?_append_left (by rw [s.len];exact h1)] at e;rw [old i h1];show ORep _ u (upd a.H p ho (a.m i));rw [Az (nep i h1)];exact (s.obj i u e).mono (Ext.push h)
  ·have hl:i < (G++ [o]).length:=(List.getElem?_eq_some_iff.mp e).1;have:i=a.n:=by rw [List.length_append,s.len] at hl;simp at hl;lia
   subst this;rw [List.getElem?_append_right (by rw [s.len];exact Nat.le_refl _),s.len] at e;simp at e;subst e;rw [new];show ORep _ o (upd a.H p ho p);rw [Gg];exact r
 ·have hi':i < a.n + 1:=hi;by_cases h1:i < a.n
  ·rw [old i h1];show upd a.H p ho (a.m i)≠none;rw [Az (nep i h1)];exact s.tr i h1
  ·have:i=a.n:=by lia
   subst this;rw [new];show upd a.H p ho p≠none;rw [Gg];simp
theorem Ext.wr (h:a.H p=some (.lst vs)):Ext a (a.put p ho):=
 ⟨rfl,Nat.le_refl _,λ_ _=>rfl,λq xs e=>by
  show upd a.H p ho q=_;rw [Az (λz=>by subst z;rw [h] at e;cases e)];exact e,λq o u e=>by
  show upd a.H p ho q=_;rw [Az (λz=>by subst z;rw [h] at e;cases e)];exact e,λ_ t=>t.mono (λq ps e=>by show upd a.H p ho q=_;rw [Az (λz=>by subst z;rw [h] at e;cases e)];exact e) (λq o u e=>by show upd a.H p ho q=_;rw [Az (λz=>by subst z;rw [h] at e;cases e)];exact e)⟩
theorem Sim.wr (s:Sim a G) (hi:i < a.n) {vs':List V} {ds':List D} (h:a.H (a.m i)=some (.lst vs)) (r:Reps (a.put (a.m i) (.lst vs')) ds' vs'):Sim (a.put (a.m i) (.lst vs')) (G.set i (.lst ds')):=by
 refine ⟨by rw [List.length_set];exact s.len,s.inj,λj o e=> ?_,λj hj=> ?_⟩
 ·rw [List.getElem?_set] at e;show ORep _ o (upd a.H (a.m i) (.lst vs') (a.m j));by_cases hij:i=j
  ·subst hij;rw [if_pos rfl,if_pos (by rw [s.len];exact hi)] at e;cases e;rw [Gg];exact ⟨vs',rfl,r⟩
  ·rw [if_neg hij] at e;rw [Az λz=>hij (s.inj _ _ (s.lt e) hi z).symm];exact (s.obj j o e).mono (Ext.wr h)
 ·show upd a.H (a.m i) (.lst vs') (a.m j)≠none;by_cases hij:a.m j=a.m i
  ·rw [hij,Gg];simp
  ·rw [Az hij];exact s.tr j hj
mutual
noncomputable def bel (n:Nat):D->Bool
 | .ref i=>decide (i < n)
 | .tup ds=>bels n ds
 | .fl ds=>bels n ds
 | _=>true
noncomputable def bels (n:Nat):List D->Bool
 | []=>true
 | d::ds=>bel n d && bels n ds
end
noncomputable def Nj (n:Nat):DO->Bool
 | .lst ds=>bels n ds
 | .dct kvs=>bels n (kvs.map (·.2))
 | .ins _ fs=>bels n (fs.map (·.2))
 | .tab _ _=>true
 | .gone=>true
mutual
theorem Rep.bel:∀{d:D} {v:V},Rep a d v->bel a.n d=true
 | .non,_,_=>by simp [DL.bel]
 | .bl _,_,_=>by simp [DL.bel]
 | .int _,_,_=>by simp [DL.bel]
 | .str _,_,_=>by simp [DL.bel]
 | .ty _,_,_=>by simp [DL.bel]
 | .tup ds,v,h=>by obtain ⟨p,vs,e,q,r⟩:=h;simp only [DL.bel];exact Reps.bels r
 | .fl ds,v,h=>by obtain ⟨p,vs,e,q,r⟩:=h;simp only [DL.bel];exact Reps.bels r
 | .ref i,v,h=>by obtain ⟨l,e⟩:=h;simp only [DL.bel];exact decide_eq_true l
theorem Reps.bels:∀{ds:List D} {vs:List V},Reps a ds vs->bels a.n ds=true
 | [],_,_=>by simp [DL.bels]
 | d::ds,vs,h=>by
  obtain ⟨v,r,e,h1,h2⟩:=h;simp only [DL.bels];rw [Rep.bel h1,Reps.bels h2]
  rfl
end
structure Cut (b c:Wd):Prop where
 k:c.K=b.K
 h:c.H=b.H
mutual
theorem Rep.cut {c:Wd} (x:Cut b c) {n:Nat} (hn:n<=c.n) (hm:∀i,i < n->c.m i=b.m i):∀{d:D} {v:V},Rep b d v->bel n d=true->Rep c d v
 | .non,_,h,_=>h
 | .bl _,_,h,_=>h
 | .int _,_,h,_=>h
 | .str _,_,h,_=>h
 | .ty _,_,h,_=>h
 | .tup ds,v,h,q=>by obtain ⟨p,vs,e,t,r⟩:=h;simp only [DL.bel] at q;exact ⟨p,vs,e,by rw [x.k,x.h];exact t,Reps.cut x hn hm r q⟩
 | .fl ds,v,h,q=>by obtain ⟨p,vs,e,t,r⟩:=h;simp only [DL.bel] at q;exact ⟨p,vs,e,by rw [x.k,x.h];exact t,Reps.cut x hn hm r q⟩
 | .ref i,v,h,q=>by obtain ⟨l,e⟩:=h;simp only [DL.bel] at q;have q':=of_decide_eq_true q;exact ⟨Nat.lt_of_lt_of_le q' hn,by rw [hm i q'];exact e⟩
theorem Reps.cut {c:Wd} (x:Cut b c) {n:Nat} (hn:n<=c.n) (hm:∀i,i < n->c.m i=b.m i):∀{ds:List D} {vs:List V},Reps b ds vs->bels n ds=true->Reps c ds vs
 | [],_,h,_=>h
 | d::ds,vs,h,q=>by obtain ⟨v,r,e,h1,h2⟩:=h;simp only [DL.bels,Bool.and_eq_true] at q;exact ⟨v,r,e,Rep.cut x hn hm h1 q.1,Reps.cut x hn hm h2 q.2⟩
end
theorem ORep.cut {c:Wd} (x:Cut b c) {n:Nat} (hn:n<=c.n) (hm:∀i,i < n->c.m i=b.m i) (h:ORep b o q) (l:Nj n o=true):ORep c o q:=by
 cases o with
 | lst ds=>obtain ⟨vs,e,r⟩:=h;exact ⟨vs,e,Reps.cut x hn hm r l⟩
 | dct kvs=>obtain ⟨us,e,k,r⟩:=h;exact ⟨us,e,k,Reps.cut x hn hm r l⟩
 | ins c fs=>obtain ⟨C,dx,us,n,e,k,r⟩:=h;exact ⟨C,dx,us,by rw [x.k];exact n,e,k,Reps.cut x hn hm r l⟩
 | tab C m=>obtain ⟨c,P,e,t⟩:=h;exact ⟨c,P,by rw [x.k];exact e,by rw [x.h];exact t⟩
 | gone=>trivial
theorem ORep.Nj (h:ORep a o q):Nj a.n o=true:=by
 cases o with
 | lst ds=>obtain ⟨vs,e,r⟩:=h;exact r.bels
 | dct kvs=>obtain ⟨us,e,k,r⟩:=h;exact r.bels
 | ins c fs=>obtain ⟨C,dx,us,n,e,k,r⟩:=h;exact r.bels
 | tab C m=>rfl
 | gone=>rfl
open Classical in
noncomputable def tidy (G:DH) (r:R D):R D:=match r with
 | .ok d G'=>if G'.take G.length=G then
   (if bel G.length d=true then .ok d G else match d with
    | .ref i=>match G'[i]? with
     | some o=>if Nj G.length o=true then .ok (.ref G.length) (G++ [o]) else .ok d G'
     | none=>.ok d G'
    | _=>.ok d G') else .ok d G'
 | r=>r
theorem ZFx (s:Sim a G) (h:out E a (tidy G r) Q):out E a r Q:=by
 cases r with
 | err e G'=>exact h
 | bad=>exact h
 | ok d G'=>
  intro b v x sb rb;unfold tidy at h;dsimp only at h;split at h
  ·rename_i hG;have hlen:∀i o,G[i]? =some o->G'[i]? =some o:=λi o e=>by have hi:i < G.length:=(List.getElem?_eq_some_iff.mp e).1;rw [<-hG,List.getElem?_take_of_lt hi] at e;exact e
   have base:∀(c:Wd),Cut b c->a.n<=c.n->(∀i,i < a.n->c.m i=b.m i)->∀i o,G[i]? =some o->ORep c o (c.H (c.m i)):=λc cc hn hm i o e=>by have q:=sb.obj i o (hlen i o e);rw [cc.h,hm i (s.lt e)];exact q.cut cc hn hm (s.obj i o e).Nj
   split at h
   ·rename_i hb;rw [s.len] at hb;let c:Wd:=⟨b.K,a.n,b.m,b.H⟩;have cc:Cut b c:=⟨rfl,rfl⟩;refine h c v ⟨x.k,Nat.le_refl _,x.m,x.tup,x.frz,x.tab⟩ ⟨s.len,λi j hi hj=>sb.inj i j (Nat.lt_of_lt_of_le hi x.n) (Nat.lt_of_lt_of_le hj x.n),base c cc (Nat.le_refl _) (λ_ _=>rfl),λi hi=>sb.tr i (Nat.lt_of_lt_of_le hi x.n)⟩ ?_;exact rb.cut cc (Nat.le_refl _) (λ_ _=>rfl) hb
   ·rename_i hb;split at h
    ·rename_i i;obtain ⟨il,iv⟩:=rb;split at h
     ·rename_i o ho;split at h
      ·rename_i hbo;rw [s.len] at hbo hb h;simp only [DL.bel,decide_eq_true_eq] at hb;let c:Wd:=⟨b.K,a.n + 1,λk=>if k=a.n then b.m i else b.m k,b.H⟩;have cc:Cut b c:=⟨rfl,rfl⟩;have cm:∀j,j < a.n->c.m j=b.m j:=λj hj=>by show (if j=a.n then b.m i else b.m j)=_;rw [if_neg (Nat.ne_of_lt hj)]
       have cn:c.m a.n=b.m i:=by show (if a.n=a.n then b.m i else b.m a.n)=_;rw [if_pos rfl]
       have lt':∀j,j < a.n->j < b.n:=λj hj=>Nat.lt_of_lt_of_le hj x.n
       refine h c v ⟨x.k,Nat.le_succ _,λj hj=>(cm j hj).trans (x.m j hj),x.tup,x.frz,x.tab⟩ ⟨by simp [s.len,c],λj k hj hk e=> ?_,λj u e=> ?_,λj hj=> ?_⟩ ⟨Nat.lt_succ_self _,by rw [cn];exact iv⟩
       ·have hj':j < a.n + 1:=hj;have hk':k < a.n + 1:=hk;by_cases h1:j < a.n
        ·by_cases h2:k < a.n
         ·rw [cm j h1,cm k h2] at e;exact sb.inj j k (lt' j h1) (lt' k h2) e
         ·have:k=a.n:=by lia
          subst this;rw [cm j h1,cn] at e;have:=sb.inj j i (lt' j h1) il e;lia
        ·have:j=a.n:=by lia
         subst this;by_cases h2:k < a.n
         ·rw [cm k h2,cn] at e;have:=sb.inj i k il (lt' k h2) e;lia
         ·lia
       ·by_cases h1:j < a.n
        ·rw [List.getElem?_append_left (by rw [s.len];exact h1)] at e;exact base c cc (Nat.le_succ _) cm j u e
        ·have hl:j < (G++ [o]).length:=(List.getElem?_eq_some_iff.mp e).1;have:j=a.n:=by rw [List.length_append,s.len] at hl;simp at hl;lia
         subst this;rw [List.getElem?_append_right (by rw [s.len];exact Nat.le_refl _),s.len] at e;simp at e;subst e;rw [cn];exact (sb.obj i o ho).cut cc (Nat.le_succ _) cm hbo
       ·have hj':j < a.n + 1:=hj;by_cases h1:j < a.n
        ·rw [cm j h1];exact sb.tr j (lt' j h1)
        ·have:j=a.n:=by lia
         subst this;rw [cn];exact sb.tr i il
      ·exact h b v x sb ⟨il,iv⟩
     ·exact h b v x sb ⟨il,iv⟩
    ·exact h b v x sb rb
  ·exact h b v x sb rb
end
noncomputable def dV (i:Nat):DE:=λS G=>match S[i]? with
 | some (some d)=>.ok d G
 | _=>.bad
noncomputable def dC (d:D):DE:=λ_ G=>.ok d G
noncomputable def dOp (f:D->D->DH->R D) (a b:DE):DE:=λS G=>(a S G).bind λx G1=>(b S G1).bind λy G2=>f x y G2
noncomputable def dUn (f:D->DH->R D) (a:DE):DE:=λS G=>(a S G).bind f
noncomputable def Ae:DA:=λ_ G=>.ok [] G
noncomputable def Ab (a:DE) (r:DA):DA:=λS G=>(a S G).bind λx G1=>(r S G1).bind λxs G2=>.ok (x::xs) G2
noncomputable def dFn (f:List D->DH->R D) (t:DA):DE:=λS G=>(t S G).bind f
noncomputable def Eu (t:DE):DE:=λS G=>tidy G (t S G)
noncomputable def asB:D->DH->R Bool
 | .bl k,G=>.ok k G
 | _,_=>.bad
noncomputable def Ax (t:DE):DB:=λS G=>(t S G).bind asB
noncomputable def M3 (t u:DB):DB:=λS G=>(t S G).bind λk G1=>if k=true then u S G1 else .ok false G1
noncomputable def dOr (t u:DB):DB:=λS G=>(t S G).bind λk G1=>if k=true then .ok true G1 else u S G1
noncomputable def Pa (t:DB):DB:=λS G=>(t S G).bind λk G1=>.ok (!k) G1
noncomputable def Mf (t u:DE):DE:=λS G=>(t S G).bind λx G1=>(asB x G1).bind λk G2=>if k=true then u S G2 else .ok (.bl false) G2
noncomputable def Vc (t u:DE):DE:=λS G=>(t S G).bind λx G1=>(asB x G1).bind λk G2=>if k=true then .ok (.bl true) G2 else u S G2
noncomputable def ZAJ (t:DE):DE:=λS G=>(t S G).bind λx G1=>(asB x G1).bind λk G2=>.ok (.bl (!k)) G2
noncomputable def dIf (c:DB) (t u:DE):DE:=λS G=>(c S G).bind λk G1=>if k=true then t S G1 else u S G1
noncomputable def ZAv (f g:D->D->DH->R D) (a b c:DE):DE:=λS G=>(a S G).bind λx G1=>(b S G1).bind λy G2=>(f x y G2).bind λz G3=>(asB z G3).bind λk G4=>
 if k=true then (c S G4).bind λw G5=>g y w G5 else .ok (.bl false) G4
noncomputable def Bo (ds:List D) (G:DH):R D:=if ds.length<=1000000 then .ok (.tup ds) G else .bad
noncomputable def Ao (ds:List D) (G:DH):R D:=if ds.length<=1000000 then .ok (.ref G.length) (G++ [.lst ds]) else .bad
noncomputable def Bs (d:D) (G:DH):Option (List D):=match d with
 | .tup xs=>some xs
 | .fl xs=>some xs
 | .ref i=>match G[i]? with
  | some (.lst xs)=>some xs
  | _=>none
 | _=>none
theorem size6:(1000000:Nat)<=sizeLine:=by decide
section
variable {X:Cx} {E:XK} {a b c:Expr} {ta tb tc:DE} {pos:Pos}
theorem two (h:lE K E (dOp f ta tb) σ H Q):tOp (lR2 K E f) (lE K E ta) (lE K E tb) σ H Q:=by obtain ⟨a,S,G,hk,rfl,s,r,h⟩:=h;refine ⟨a,S,G,hk,rfl,s,r,(Ge h).imp ?_⟩;rintro v _ ⟨b,d,G1,rfl,x,s1,q,_,h1⟩;refine ⟨b,S,G1,x.k.trans hk,rfl,s1,r.mono x,(Ge h1).imp ?_⟩;rintro w _ ⟨c,e,G2,rfl,y,s2,q2,_,h2⟩;exact ⟨c,G2,d,e,y.k.trans (x.k.trans hk),rfl,s2,q.mono y,q2,h2⟩
theorem Aa (i:Nat) {pos:Pos} (hN:X.N[i]? =some x:=by rfl) (hv:Vis X.env.scope x:=by first | exact Or.inl rfl | exact Or.inr (Or.inl rfl) | exact Or.inr (Or.inr rfl)) (hd:(x == ("__debug__":Str))=false:=by decide)
  (hcd:(x == ("__classdict__":Str))=false:=by decide):QE X E (.Name x pos) (dV i):=by
 refine (ZMq hN hv hd hcd).mono λσ H Q h=> ?_
 obtain ⟨a,S,G,hk,rfl,s,r,h⟩:=h;unfold dV at h;split at h
 ·rename_i d e;obtain ⟨v,e',q⟩:=r.get i d e;exact ⟨v,e',h a v (Ext.refl a) s q⟩
 ·exact h.elim
theorem Ph (h:lE K E (dC d) σ H Q) (r:∀a:Wd,a.K=K->Rep a d v):Q v H:=by obtain ⟨a,S,G,hk,rfl,s,_,h⟩:=h;exact h a v (Ext.refl a) s (r a hk)
theorem Ad {i:Int} :QE X E (.Constant (.int i) j pos) (dC (.int i)):=ZLo.mono λσ H Q h=>Ph h λ_ _=>rfl
theorem Oc {i:Bool} :QE X E (.Constant (.bool i) j pos) (dC (.bl i)):=ZMm.mono λσ H Q h=>Ph h λ_ _=>rfl
theorem Gb:QE X E (.Constant .none j pos) (dC .non):=ZLv.mono λσ H Q h=>Ph h λ_ _=>rfl
theorem Ew {i:Str} :QE X E (.Constant (.str i) j pos) (dC (.str i)):=ZNi.mono λσ H Q h=>Ph h λ_ _=>rfl
theorem Cr {u:Value} (hg:Gl X x) (hm:X.mg x=some u) (r:RelV v u) (rd:∀a:Wd,a.K=X.K->Rep a d v) (hd:(x == ("__debug__":Str))=false:=by decide):QE X E (.Name x pos) (dC d):=
 (ZMZ hg hm r hd).mono λσ H Q h=>Ph h rd
theorem Ag {op:Operator} (ho:OpR X (binaryOp op) (lR2 X.K E f)) (ha:QE X E a ta) (hb:QE X E b tb):QE X E (.BinOp a op b pos) (dOp f ta tb):=
 (ZSX ho ha hb).mono λ_ _ _ h=>two h
theorem Jb {op:CmpOp} (ho:OpR X (compareOp op) (lR2 X.K E f)) (ha:QE X E a ta) (hb:QE X E b tb) (hm:behindInMarks op b=false):QE X E (.Compare a [op] [b] pos) (dOp f ta tb):=
 (ZNa ho ha hb hm).mono λ_ _ _ h=>two h
theorem ZDi {Q:Bool->Hp->Prop} (h:lB K E (Ax t) σ H Q):T7 (lE K E t) σ H Q:=by
 obtain ⟨a,S,G,hk,rfl,s,r,h⟩:=h;refine ⟨a,S,G,hk,rfl,s,r,(ZNd h).imp ?_⟩;rintro v _ ⟨b,d,G1,rfl,x,s1,q,_,h1⟩;cases d with
 | bl k=>exact ⟨k,q,h1 b (Ext.refl b) s1⟩
 | _=>exact h1.elim
theorem ZF1 {t t':TE} (w:∀σ H Q,t' σ H Q->t σ H Q) (σ:St) (H:Hp) (Q:Bool->Hp->Prop) (h:T7 t' σ H Q):T7 t σ H Q:=w _ _ _ h
theorem Bl {op:CmpOp} (ho:OpR X (compareOp op) (lR2 X.K E f)) (ha:QE X E a ta) (hb:QE X E b tb) (hm:behindInMarks op b=false):QT X E (.Compare a [op] [b] pos) (Ax (dOp f ta tb)):=
 (ZOy ho ha hb hm).mono λσ H Q h=>ZF1 (λ_ _ _ z=>two z) σ H Q (ZDi h)
theorem chain {g:D->D->DH->R D} (h:lE K E (ZAv f g ta tb tc) σ H Q):ZJQ (lR2 K E f) (lR2 K E g) (lE K E ta) (lE K E tb) (lE K E tc) σ H Q:=by
 obtain ⟨a,S,G,hk,rfl,s,r,h⟩:=h;refine ⟨a,S,G,hk,rfl,s,r,(Ge h).imp ?_⟩;rintro v _ ⟨b,d,G1,rfl,x,s1,q,_,h1⟩;refine ⟨b,S,G1,x.k.trans hk,rfl,s1,r.mono x,(Ge h1).imp ?_⟩;rintro w _ ⟨c,e,G2,rfl,y,s2,q2,_,h2⟩;refine ⟨c,G2,d,e,y.k.trans (x.k.trans hk),rfl,s2,q.mono y,q2,(Ge h2).imp ?_⟩;rintro z _ ⟨c3,e3,G3,rfl,y3,s3,q3,_,h3⟩;cases e3 with
 | bl k=>
  refine ⟨k,q3,?_⟩;cases k with
  | false=>exact h3 c3 (.bl false) (Ext.refl _) s3 rfl
  | true=>
   refine ⟨c3,S,G3,(y3.k.trans (y.k.trans (x.k.trans hk))),rfl,s3,((r.mono x).mono y).mono y3,(Ge h3).imp ?_⟩;rintro z4 _ ⟨c4,e4,G4,rfl,y4,s4,q4,_,h4⟩;exact ⟨c4,G4,e,e4,y4.k.trans (y3.k.trans (y.k.trans (x.k.trans hk))),rfl,s4,(q2.mono y3).mono y4,q4,h4⟩
 | _=>exact h3.elim
theorem ZLk {op op':CmpOp} {g:D->D->DH->R D} (ho:OpR X (compareOp op) (lR2 X.K E f)) (ho':OpR X (compareOp op') (lR2 X.K E g)) (ha:QE X E a ta) (hb:QE X E b tb) (hc:QE X E c tc)
  (hm:lastMarks [op,op'] [b,c]=false:=by with_unfolding_all rfl):QT X E (.Compare a [op,op'] [b,c] pos) (Ax (ZAv f g ta tb tc)):=
 (ZPS ho ho' ha hb hc hm).mono λσ H Q h=>ZF1 (λ_ _ _ z=>chain z) σ H Q (ZDi h)
theorem Io (ha:QE X E a ta) (he:∀whole,isTrue a X.env whole=(do let v<-whole;standAt a.pos;holding [v] (truthy v)):=by intro _;rfl):QT X E a (Ax ta):=
 (ZNv ha he).mono λσ H Q h=>ZDi h
theorem Fx (ha:QE X E a ta):QE X E a (Eu ta):=L2.PE.mono ha λσ H Q h=>by obtain ⟨w,S,G,hk,rfl,s,r,h⟩:=h;exact ⟨w,S,G,hk,rfl,s,r,ZFx s h⟩
noncomputable def QW (X:Cx) (E:XK) (e:Expr) (t:DB):Prop:=PW X e (lB X.K E t)
theorem _root_.L2.PW.mono {t t':TT} (h:PW X e t) (w:∀σ H Q,t' σ H Q->t σ H Q):PW X e t':=λwh pins s σ H Q I q=>h wh pins s σ H Q I (w σ H Q q)
variable {u t:DB} {rest:List Expr}
theorem ZQG {Q:Bool->Hp->Prop} (h:lB K E (M3 t u) σ H Q):tAnd (lB K E t) (lB K E u) σ H Q:=by
 obtain ⟨a,S,G,hk,rfl,s,r,h⟩:=h;refine ⟨a,S,G,hk,rfl,s,r,(ZDs h).imp ?_⟩;rintro k _ ⟨b,G1,rfl,x,s1,_,h1⟩;cases k with
 | true=>exact ⟨b,S,G1,x.k.trans hk,rfl,s1,r.mono x,h1⟩
 | false=>exact h1 b (Ext.refl b) s1
theorem ZQf {Q:Bool->Hp->Prop} (h:lB K E (dOr t u) σ H Q):tOr (lB K E t) (lB K E u) σ H Q:=by
 obtain ⟨a,S,G,hk,rfl,s,r,h⟩:=h;refine ⟨a,S,G,hk,rfl,s,r,(ZDs h).imp ?_⟩;rintro k _ ⟨b,G1,rfl,x,s1,_,h1⟩;cases k with
 | true=>exact h1 b (Ext.refl b) s1
 | false=>exact ⟨b,S,G1,x.k.trans hk,rfl,s1,r.mono x,h1⟩
theorem Ra (ha:QT X E a t):QW X E (.BoolOp .And [a] pos) t:=pw_and1 ha
theorem Lr (ha:QT X E a t):QW X E (.BoolOp .Or [a] pos) t:=pw_or1 ha
theorem R8 (ha:QT X E a t) (hb:QW X E (.BoolOp .And (b::rest) pos) u):QW X E (.BoolOp .And (a::b::rest) pos) (M3 t u):=(pw_and ha hb).mono λ_ _ _ h=>ZQG h
theorem Ke (ha:QT X E a t) (hb:QW X E (.BoolOp .Or (b::rest) pos) u):QW X E (.BoolOp .Or (a::b::rest) pos) (dOr t u):=(pw_or ha hb).mono λ_ _ _ h=>ZQf h
theorem Ib (h:QW X E a t):QT X E a t:=L2.PW.pt h
theorem ZBT (ha:QT X E a t):QT X E (.UnaryOp .Not a pos) (Pa t):=(ZOx ha).mono λσ H Q h=>by obtain ⟨a,S,G,hk,rfl,s,r,h⟩:=h;refine ⟨a,S,G,hk,rfl,s,r,(ZDs h).imp ?_⟩;rintro k _ ⟨b,G1,rfl,x,s1,_,h1⟩;exact h1 b (Ext.refl b) s1
theorem Nu {op} (h:QE X E a ta):QE X E (.BoolOp op [a] pos) ta:=ZLq h
theorem Pr (ha:QE X E a ta) (hb:QE X E (.BoolOp .And (b::rest) pos) tb):QE X E (.BoolOp .And (a::b::rest) pos) (Mf ta tb):=(ZPX ha hb).mono λσ H Q h=>by
 obtain ⟨a,S,G,hk,rfl,s,r,h⟩:=h;refine ⟨a,S,G,hk,rfl,s,r,(Ge h).imp ?_⟩;rintro v _ ⟨b,d,G1,rfl,x,s1,q,_,h1⟩;cases d with
 | bl k=>
  refine ⟨k,q,?_⟩;cases k with
  | true=>exact ⟨b,S,G1,x.k.trans hk,rfl,s1,r.mono x,h1⟩
  | false=>exact h1 b _ (Ext.refl b) s1 rfl
 | _=>exact h1.elim
theorem ZJK (ha:QE X E a ta) (hb:QE X E (.BoolOp .Or (b::rest) pos) tb):QE X E (.BoolOp .Or (a::b::rest) pos) (Vc ta tb):=(ZPZ ha hb).mono λσ H Q h=>by
 obtain ⟨a,S,G,hk,rfl,s,r,h⟩:=h;refine ⟨a,S,G,hk,rfl,s,r,(Ge h).imp ?_⟩;rintro v _ ⟨b,d,G1,rfl,x,s1,q,_,h1⟩;cases d with
 | bl k=>
  refine ⟨k,q,?_⟩;cases k with
  | false=>exact ⟨b,S,G1,x.k.trans hk,rfl,s1,r.mono x,h1⟩
  | true=>exact h1 b _ (Ext.refl b) s1 rfl
 | _=>exact h1.elim
theorem ZJm (ha:QE X E a ta):QE X E (.UnaryOp .Not a pos) (ZAJ ta):=(ZQ7 ha).mono λσ H Q h=>by
 obtain ⟨a,S,G,hk,rfl,s,r,h⟩:=h;refine ⟨a,S,G,hk,rfl,s,r,(Ge h).imp ?_⟩;rintro v _ ⟨b,d,G1,rfl,x,s1,q,_,h1⟩;cases d with
 | bl k=>exact ⟨k,q,h1 b _ (Ext.refl b) s1 rfl⟩
 | _=>exact h1.elim
theorem ZPy (hc:QT X E c t) (ha:QE X E a ta) (hb:QE X E b tb):QE X E (.IfExp c a b pos) (dIf t ta tb):=(ZMj hc ha hb).mono λσ H Q h=>by
 obtain ⟨a,S,G,hk,rfl,s,r,h⟩:=h;refine ⟨a,S,G,hk,rfl,s,r,(ZF5 h).imp ?_⟩;rintro k _ ⟨b,G1,rfl,x,s1,_,h1⟩;cases k with
 | true=>exact ⟨b,S,G1,x.k.trans hk,rfl,s1,r.mono x,h1⟩
 | false=>exact ⟨b,S,G1,x.k.trans hk,rfl,s1,r.mono x,h1⟩
variable {es:List Expr} {tr:DA}
theorem Af:QA X E [] Ae:=ZLZ.mono λσ H Q h=>by obtain ⟨a,S,G,hk,rfl,s,r,h⟩:=h;exact h a [] (Ext.refl a) s rfl
noncomputable def notStar:Expr->Bool
 | .Starred _ _=>false
 | _=>true
theorem O1 (a:Expr) (es:List Expr) (env:Env) (h:notStar a=true):starEach (a::es) env=(false,eval a env)::starEach es env:=by
 cases a <;> first
  | exact absurd h Bool.false_ne_true
  | rfl
theorem Ot (pos:Pos) (env:Env):∀es:List Expr,es.all notStar=true->(backTo pos (starEach es env)).any (·.1)=false
 | [],_=>rfl
 | a::es,h=>by
  rw [List.all_cons,Bool.and_eq_true] at h;rw [O1 a es env h.1];have ih:=Ot pos env es h.2;unfold backTo at ih ⊢;rw [List.map_cons,List.any_cons,ih]
  rfl
theorem Ac (ha:QE X E a ta) (hr:QA X E es tr) (hs:notStar a=true:=by rfl):QA X E (a::es) (Ab ta tr):=(ZLg ha hr (O1 a es X.env hs)).mono λσ H Q h=>by obtain ⟨a,S,G,hk,rfl,s,r,h⟩:=h;refine ⟨a,S,G,hk,rfl,s,r,(ZOJ h).imp ?_⟩;rintro v _ ⟨b,d,G1,rfl,x,s1,q,_,h1⟩;refine ⟨b,S,G1,x.k.trans hk,rfl,s1,r.mono x,(ZPc h1).imp ?_⟩;rintro vs _ ⟨c,ds,G2,rfl,y,s2,q2,_,h2⟩;exact h2 c _ (Ext.refl c) s2 (Reps.cons (q.mono y) q2)
theorem Fe {x1} (h:QA X E es tr):QE X E (.Tuple es x1 pos) (dFn Bo tr):=(ZQk h).mono λσ H Q h=>by
 obtain ⟨a,S,G,hk,rfl,s,r,h⟩:=h;refine ⟨a,S,G,hk,rfl,s,r,(Ny h).imp ?_⟩;rintro vs _ ⟨b,ds,G1,rfl,x,s1,q,_,h1⟩;unfold Bo at h1;split at h1
 ·rename_i hl;refine ⟨by rw [<-q.length];exact Nat.le_trans hl size6,λp hp=> ?_⟩;exact h1 (b.put p (.tup vs)) (.ref p) (Ext.put hp) (s1.put hp) ⟨p,vs,rfl,.of Gg,q.mono (Ext.put hp)⟩
 ·exact h1.elim
theorem Fd (h:QA X E es tr):QE X E (.List es pos) (dFn Ao tr):=(ZNh h).mono λσ H Q h=>by
 obtain ⟨a,S,G,hk,rfl,s,r,h⟩:=h;refine ⟨a,S,G,hk,rfl,s,r,(Ny h).imp ?_⟩;rintro vs _ ⟨b,ds,G1,rfl,x,s1,q,_,h1⟩;unfold Ao at h1;split at h1
 ·rename_i hl;refine ⟨by rw [<-q.length];exact Nat.le_trans hl size6,λp hp=> ?_⟩;refine h1 (b.push p (.lst vs)) (.ref p) (Ext.push hp) (s1.push hp ⟨vs,rfl,q.mono (Ext.push hp)⟩) ⟨?_,?_⟩
  ·rw [s1.len];exact Nat.lt_succ_self _
  ·rw [s1.len];show V.ref p=.ref (if b.n=b.n then p else b.m b.n);rw [if_pos rfl]
 ·exact h1.elim
variable {e:Expr} {x:Str} {p:Pos}
theorem ZCQ {f:List D->DH->R D} (h:lE K E (dFn f tr) σ H Q):lA K E tr σ H (λvs H1=>lRn K E f vs H1 Q):=by obtain ⟨a,S,G,hk,rfl,s,r,h⟩:=h;refine ⟨a,S,G,hk,rfl,s,r,(Ny h).imp ?_⟩;rintro vs _ ⟨b,ds,G1,rfl,x,s1,q,_,h1⟩;exact ⟨b,G1,ds,x.k.trans hk,rfl,s1,q,h1⟩
theorem Cu {id:String} {f:List D->DH->R D} (hc:CallR X (.builtin id) (lRn X.K E f)) (hg:Gl X x) (hm:X.mg x=none) (hv:bootBuiltins x=some (.builtin id)) (ha:QA X E (e::es) tr) (hn:x≠"__name__":=by decide) (hdb:(x == ("__debug__":Str))=false:=by decide)
  (he:notStar e=true:=by rfl) (hpl:es.all notStar=true:=by rfl):QE X E (.Call (.Name x p) (e::es) [] pos) (dFn f tr):=
 (ZPq hc hg hm hv ha hn hdb (O1 e es X.env he) (Ot pos X.env es hpl)).mono λσ H Q h=>ZCQ h
theorem Hf {id:String} {f:List D->DH->R D} (hc:CallR X (.type id) (lRn X.K E f)) (hg:Gl X x) (hm:X.mg x=none) (hv:bootBuiltins x=some (.type id)) (ha:QA X E (e::es) tr) (hn:x≠"__name__":=by decide) (hdb:(x == ("__debug__":Str))=false:=by decide)
  (he:notStar e=true:=by rfl) (hpl:es.all notStar=true:=by rfl):QE X E (.Call (.Name x p) (e::es) [] pos) (dFn f tr):=
 (ZST hc hg hm hv ha hn hdb (O1 e es X.env he) (Ot pos X.env es hpl)).mono λσ H Q h=>ZCQ h
theorem Aw {CX:CXT} {f:Addr} {fd:FuncData} {ps:List Str} {F:List D->DH->R D} (FF:FnOk X.prog X.w X.K X.mg X.base CX k f fd ps (lF X.K F)) (hr:Room k X.A) (hg:Gl X x) (hm:X.mg x=some (.ref f)) (hk:PySem.W.keepIn X.K (.ref f)=true) (hb:Binds X.K fd ps [])
  (hx:Passes CX X E) (ha:QA X E (e::es) tr) (hdb:(x == ("__debug__":Str))=false:=by decide) (he:notStar e=true:=by rfl) (hpl:es.all notStar=true:=by rfl):
  QE X E (.Call (.Name x p) (e::es) [] pos) (dFn F tr):=
 (ZKH FF hr hg hm hk hb .nil hx ha hdb (O1 e es X.env he) (Ot pos X.env es hpl)).mono λσ H Q h=>by obtain ⟨a,S,G,hk,rfl,s,r,h⟩:=ZCQ h;refine ⟨a,S,G,hk,rfl,s,r,h.imp ?_⟩;rintro vs _ ⟨b,G1,ds,hk,rfl,s1,q,h1⟩;exact ⟨b,G1,ds,hk,rfl,s1,by rw [List.append_nil];exact q,h1⟩
theorem Al (hr:IxR X (lR2 X.K E f)) (ha:QE X E a ta) (hb:QE X E b tb) (hs:PlainIx b:=by intro _ _;rfl):QE X E (.Subscript a b pos) (dOp f ta tb):=
 (ZRk hr ha hb hs).mono λ_ _ _ h=>two h
end
noncomputable instance (i j:Int):Decidable (CMul i j):=by unfold CMul;infer_instance
noncomputable instance (i j:Int):Decidable (CPow i j):=by unfold CPow;infer_instance
noncomputable def CDivL (j:Int):Prop:=0 < j/\j.natAbs.log2 < 9000
noncomputable instance (j:Int):Decidable (CDivL j):=by unfold CDivL;infer_instance
noncomputable def Em:D->D->DH->R D
 | .int i,.int j,G=>.ok (.int (i - j)) G
 | _,_,_=>.bad
noncomputable def De:D->D->DH->R D
 | .int i,.int j,G=>if CDivL j then .ok (.int (i / j)) G else .bad
 | _,_,_=>.bad
noncomputable def Bj:D->D->DH->R D
 | .int i,.int j,G=>if 0 < j then .ok (.int (i % j)) G else .bad
 | _,_,_=>.bad
noncomputable def Jh:D->D->DH->R D
 | .int i,.int j,G=>if CPow i j then .ok (.int (i ^ j.toNat)) G else .bad
 | _,_,_=>.bad
noncomputable def Ih:D->D->DH->R D
 | .int i,.int j,G=>.ok (.bl (decide (i < j))) G
 | .str i,.str j,G=>.ok (.bl (decide (i.cps.toList < j.cps.toList))) G
 | _,_,_=>.bad
noncomputable def ZBr:D->D->DH->R D
 | .int i,.int j,G=>.ok (.bl (decide (i<=j))) G
 | .str i,.str j,G=>.ok (.bl (!decide (j.cps.toList < i.cps.toList))) G
 | _,_,_=>.bad
noncomputable def Kf:D->D->DH->R D
 | .int i,.int j,G=>.ok (.bl (decide (j < i))) G
 | .str i,.str j,G=>.ok (.bl (decide (j.cps.toList < i.cps.toList))) G
 | _,_,_=>.bad
noncomputable def ZBH:D->D->DH->R D
 | .int i,.int j,G=>.ok (.bl (decide (j<=i))) G
 | .str i,.str j,G=>.ok (.bl (!decide (i.cps.toList < j.cps.toList))) G
 | _,_,_=>.bad
noncomputable def Ho (d:D) (G:DH):Option (List D):=match d with
 | .fl xs=>some xs
 | .ref i=>match G[i]? with
  | some (.lst xs)=>some xs
  | _=>none
 | _=>none
noncomputable def Ay:D->D->DH->R D
 | .int i,.int j,G=>.ok (.int (i + j)) G
 | .str i,.str j,G=>if i.length + j.length<=1000000 then .ok (.str (i++j)) G else .bad
 | .tup xs,.tup ys,G=>if xs≠ []/\xs.length + ys.length<=1000000 then .ok (.tup (xs++ys)) G else .bad
 | d,e,G=>match Ho d G,Ho e G with
  | some xs,some ys=>if xs.length + ys.length<=1000000 then .ok (.ref G.length) (G++ [.lst (xs++ys)]) else .bad
  | _,_=>.bad
section
variable {X:Cx} {E:XK}
theorem Gy {f:Value->Value->Sem Value} {r:R2} {F:D->D->DH->R D} (ho:OpR X f r)
  (h:∀(a:Wd) (G:DH) (d e:D) (x y:V) (Q:VK),a.K=X.K->Sim a G->Rep a d x->Rep a e y->out E a (F d e G) Q->r x y a.H Q):OpR X f (lR2 X.K E F):=
 ho.mono λx y H Q ⟨a,G,d,e,hk,hH,s,rd,re,q⟩=>by subst hH;exact h a G d e x y Q hk s rd re q
theorem Ft:OpR X (binaryOp .Sub) (lR2 X.K E Em):=Gy ZPh λa G d e x y Q hk s rd re q=>by
 cases d <;> cases e <;> first
  | exact q.elim
  | exact ⟨_,_,rd,re,q a _ (Ext.refl a) s rfl⟩
theorem ZSg:OpR X (binaryOp .FloorDiv) (rI (λ_ j=>CDivL j) λi j=>.int (i / j)):=opI λi j _ _ _ _ _ hc q=>by have e:i.fdiv j=i / j:=Int.fdiv_eq_ediv_of_nonneg _ (Int.le_of_lt hc.1);refine floordiv_int (by have:=hc.1;lia) (by rw [e];exact q) (.inl (PyProof.noPylong_of_log2 hc.2))
theorem Dm:OpR X (binaryOp .FloorDiv) (lR2 X.K E De):=Gy ZSg λa G d e x y Q hk s rd re q=>by
 cases d <;> cases e <;> first
  | exact q.elim
  | (
    rename_i i j;unfold De at q;dsimp only at q;split at q
    ·exact ⟨_,_,rd,re,by assumption,q a _ (Ext.refl a) s rfl⟩
    ·exact q.elim)
theorem Bp:OpR X (binaryOp .Mod) (lR2 X.K E Bj):=Gy ZMQ λa G d e x y Q hk s rd re q=>by
 cases d <;> cases e <;> first
  | exact q.elim
  | (
    rename_i i j;unfold Bj at q;dsimp only at q;split at q
    ·exact ⟨_,_,rd,re,by assumption,q a _ (Ext.refl a) s rfl⟩
    ·exact q.elim)
theorem Mm:OpR X (binaryOp .Pow) (lR2 X.K E Jh):=Gy ZRZ λa G d e x y Q hk s rd re q=>by
 cases d <;> cases e <;> first
  | exact q.elim
  | (
    rename_i i j;unfold Jh at q;dsimp only at q;split at q
    ·exact ⟨_,_,rd,re,by assumption,q a _ (Ext.refl a) s rfl⟩
    ·exact q.elim)
theorem Jj:OpR X (compareOp .Lt) (lR2 X.K E Ih):=Gy (ZON.or ZPO) λa G d e x y Q hk s rd re q=>by
 cases d <;> cases e <;> first
  | exact q.elim
  | exact .inl ⟨_,_,rd,re,q a _ (Ext.refl a) s rfl⟩
  | exact .inr ⟨_,_,rd,re,q a _ (Ext.refl a) s rfl⟩
theorem ZPJ:OpR X (compareOp .LtE) (λx y H Q=>∃i j,x=.str i/\y=.str j/\Q (.bl (!decide (j.cps.toList < i.cps.toList))) H):=by intro pins s σ H x y v u Q I rx ry h;obtain ⟨i,j,rfl,rfl,q⟩:=h;obtain ⟨t,rfl⟩:=rx;obtain ⟨t',rfl⟩:=ry;exact PySem.P.le_str ⟨.bl _,H,I,rfl,q⟩
theorem ZR5:OpR X (compareOp .Gt) (λx y H Q=>∃i j,x=.str i/\y=.str j/\Q (.bl (decide (j.cps.toList < i.cps.toList))) H):=by intro pins s σ H x y v u Q I rx ry h;obtain ⟨i,j,rfl,rfl,q⟩:=h;obtain ⟨t,rfl⟩:=rx;obtain ⟨t',rfl⟩:=ry;exact PySem.P.gt_str ⟨.bl _,H,I,rfl,q⟩
theorem ZMh:OpR X (compareOp .GtE) (λx y H Q=>∃i j,x=.str i/\y=.str j/\Q (.bl (!decide (i.cps.toList < j.cps.toList))) H):=by intro pins s σ H x y v u Q I rx ry h;obtain ⟨i,j,rfl,rfl,q⟩:=h;obtain ⟨t,rfl⟩:=rx;obtain ⟨t',rfl⟩:=ry;exact PySem.P.ge_str ⟨.bl _,H,I,rfl,q⟩
theorem o_le:OpR X (compareOp .LtE) (lR2 X.K E ZBr):=Gy (ZMg.or ZPJ) λa G d e x y Q hk s rd re q=>by
 cases d <;> cases e <;> first
  | exact q.elim
  | exact .inl ⟨_,_,rd,re,q a _ (Ext.refl a) s rfl⟩
  | exact .inr ⟨_,_,rd,re,q a _ (Ext.refl a) s rfl⟩
theorem O7:OpR X (compareOp .Gt) (lR2 X.K E Kf):=Gy (ZKY.or ZR5) λa G d e x y Q hk s rd re q=>by
 cases d <;> cases e <;> first
  | exact q.elim
  | exact .inl ⟨_,_,rd,re,q a _ (Ext.refl a) s rfl⟩
  | exact .inr ⟨_,_,rd,re,q a _ (Ext.refl a) s rfl⟩
theorem o_ge:OpR X (compareOp .GtE) (lR2 X.K E ZBH):=Gy (ZMW.or ZMh) λa G d e x y Q hk s rd re q=>by
 cases d <;> cases e <;> first
  | exact q.elim
  | exact .inl ⟨_,_,rd,re,q a _ (Ext.refl a) s rfl⟩
  | exact .inr ⟨_,_,rd,re,q a _ (Ext.refl a) s rfl⟩
theorem Sim.lst (s:Sim a G) (h:G[i]? =some (.lst xs)):∃vs,a.H (a.m i)=some (.lst vs)/\Reps a xs vs:=s.obj i _ h
theorem La (s:Sim a G) (r:Reps a ds vs) (h:out E a (.ok (.ref G.length) (G++ [.lst ds])) Q) (p:Addr) (hp:a.H p=none):Q (.ref p) (upd a.H p (.lst vs)):=by
 refine h (a.push p (.lst vs)) (.ref p) (Ext.push hp) (s.push hp ⟨vs,rfl,r.mono (Ext.push hp)⟩) ⟨?_,?_⟩
 ·rw [s.len];exact Nat.lt_succ_self _
 ·rw [s.len];show V.ref p=.ref (if a.n=a.n then p else a.m a.n);rw [if_pos rfl]
theorem ZFL (s:Sim a G) (r:Reps a ds vs) (h:out E a (.ok (.tup ds) G) Q) (p:Addr) (hp:a.H p=none):Q (.ref p) (upd a.H p (.tup vs)):=
 h (a.put p (.tup vs)) (.ref p) (Ext.put hp) (s.put hp) ⟨p,vs,rfl,.of Gg,r.mono (Ext.put hp)⟩
theorem V0 {x:V} (s:Sim a G) (r:Rep a d x) (h:Ho d G=some xs):∃p vs,x=.ref p/\SqL a.K a.H p vs/\Reps a xs vs:=by
 cases d with
 | fl ys=>
  have e:ys=xs:=Option.some.inj h;subst e;obtain ⟨p,vs,e,q,rr⟩:=r;exact ⟨p,vs,e,q.sq,rr⟩
 | ref i=>
  unfold Ho at h;dsimp only at h;split at h
  ·rename_i ys hi;have e:ys=xs:=Option.some.inj h;subst e;obtain ⟨vs,e1,r1⟩:=s.lst hi;exact ⟨a.m i,vs,r.2,.of e1,r1⟩
  ·cases h
 | _=>cases h
noncomputable def ZIJ (K:PySem.W.Frag):R2:=λx y H Q=>∃l b xs zs,x=.ref l/\y=.ref b/\SqL K H l xs/\SqL K H b zs/\xs.length + zs.length<=sizeLine/\∀p,H p=none->Q (.ref p) (upd H p (.lst (xs++zs)))
theorem ZPm:OpR X (binaryOp .Add) (ZIJ X.K):=by
 intro pins s σ H x y v u Q I rx ry h;obtain ⟨l,b,xs,zs,rfl,rfl,hH,hB,hz,q⟩:=h;cases rx;cases ry;obtain ⟨its,r,p1,_⟩:=I.list hH;obtain ⟨its2,r2,p2,_⟩:=I.list hB;obtain ⟨⟨cls,dd,data,sl⟩,n,ho,hc,_,hd⟩:=p1;obtain ⟨⟨cls2,dd2,data2,sl2⟩,n2,ho2,hc2,_,hd2⟩:=p2;cases hc;cases hd;cases hc2;cases hd2;have hl:=r.length;have hl2:=r2.length;refine concat_meets ⟨_,ho,rfl⟩ ⟨_,ho2,rfl⟩ noFill_list_add seq_list_add PySem.F.slot_list_add PySem.F.entry_list_add (PySem.F.args_list_add_2 _ _) (list_addW l b its.toArray its2.toArray n n2 dd dd2 sl sl2 (by rw [List.size_toArray,List.size_toArray];lia)) ⟨ho,ho2,?_⟩
 have ea:its.toArray++its2.toArray=(its++its2).toArray:=by simp
 rw [ea];exact ⟨.ref _,_,I.lnew (t':=s.toks) (r.append r2) (by rw [List.length_append];lia),rfl,q _ I.fresh⟩
theorem Ba:OpR X (binaryOp .Add) (lR2 X.K E Ay):=Gy (ZR7.or (ZPe.or (ZPm.or ZRf))) λa G d e x y Q hk s rd re q=>by
 have lst:out E a (match Ho d G,Ho e G with
  | some xs,some ys=>if xs.length + ys.length<=1000000 then .ok (.ref G.length) (G++ [.lst (xs++ys)]) else .bad
  | _,_=>.bad) Q->ZIJ X.K x y a.H Q:=λq=>by
  split at q
  ·rename_i xs ys h1 h2;split at q
   ·rename_i hl;obtain ⟨p,vs,e1,q1,r1⟩:=V0 s rd h1;obtain ⟨p',vs',e2,q2,r2⟩:=V0 s re h2;rw [hk] at q1 q2;exact ⟨p,p',vs,vs',e1,e2,q1,q2,by rw [<-r1.length,<-r2.length];exact Nat.le_trans hl size6,λp hp=>La s (r1.append r2) q p hp⟩
   ·exact q.elim
  ·exact q.elim
 have L:=λq=>Or.inr (a:=rI0 (λi j=>V.int (i + j)) x y a.H Q) (Or.inr (a:=∃i j,x=.str i/\y=.str j/\i.length + j.length<=sizeLine/\Q (.str (i++j)) a.H) (Or.inl (b:=ZGC X.K x y a.H Q) (lst q)))
 cases d <;> cases e <;> first
  | exact .inl ⟨_,_,rd,re,q a _ (Ext.refl a) s rfl⟩
  | exact L q
  | skip
 ·rename_i i j;unfold Ay at q;dsimp only at q;split at q
  ·rename_i hl;exact .inr (.inl ⟨_,_,rd,re,Nat.le_trans hl size6,q a _ (Ext.refl a) s rfl⟩)
  ·exact q.elim
 ·rename_i xs ys;unfold Ay at q;dsimp only at q;split at q
  ·rename_i hl;obtain ⟨p,vs,e1,h1,r1⟩:=rd;obtain ⟨p',vs',e2,h2,r2⟩:=re;rw [hk] at h1 h2;refine .inr (.inr (.inr ⟨p,p',vs,vs',e1,e2,h1,h2,λz=>hl.1 (List.eq_nil_of_length_eq_zero (by rw [r1.length,z];rfl)),by rw [<-r1.length,<-r2.length];exact Nat.le_trans hl.2 size6,λz=> ?_,λ_ p0 hp=> ?_⟩))
   ·refine q a (.ref p) (Ext.refl a) s ⟨p,vs,rfl,by rw [hk];exact h1,?_⟩;have e3:ys= []:=List.eq_nil_of_length_eq_zero (by rw [r2.length,z];rfl);rw [e3,List.append_nil];exact r1
   ·exact ZFL s (r1.append r2) q p0 hp
  ·exact q.elim
inductive VD where
 | flat (v:V)
 | lst (xs:List D)
 | tup (xs:List D)
 | bad
noncomputable def view (G:DH):D->VD
 | .non=>.flat .non
 | .bl b=>.flat (.bl b)
 | .int i=>.flat (.int i)
 | .str x=>.flat (.str x)
 | .ty _=>.bad
 | .tup xs=>.tup xs
 | .fl xs=>.lst xs
 | .ref i=>match G[i]? with
  | some (.lst xs)=>.lst xs
  | _=>.bad
noncomputable def eqZ (f:D->D->Option Bool):List D->List D->Option Bool
 | x::xs,y::ys=>match f x y,eqZ f xs ys with
  | some a,some b=>some (a && b)
  | _,_=>none
 | _,_=>some true
noncomputable def eqD:Nat->DH->D->D->Option Bool
 | 0=>λ_ _ _=>none
 | n + 1=>λG d e=>match view G d,view G e with
  | .flat a,.flat b=>some (eqV a b)
  | .lst xs,.lst ys=>if xs.length=ys.length then eqZ (eqD n G) xs ys else some false
  | .tup xs,.tup ys=>match eqZ (eqD n G) xs ys with
   | some b=>some (b && xs.length == ys.length)
   | none=>none
  | .bad,_=>none
  | _,.bad=>none
  | _,_=>some false
theorem Xy {f:D->D->Option Bool}:∀{xs ys:List D} {k:Bool},eqZ f xs ys=some k->∃e:Nat->Bool,(∀(j:Nat) (x y:D),xs[j]? =some x->ys[j]? =some y->f x y=some (e j))/\k=(List.range (min xs.length ys.length)).all e
 | [],ys,k,h=>⟨λ_=>true,λj x y e1 _=>by simp at e1,by
   have h':some true=some k:=by cases ys <;> exact h
   cases h';simp⟩
 | x::xs,[],k,h=>⟨λ_=>true,λj x y _ e1=>by simp at e1,by have h':some true=some k:=h;cases h';simp⟩
 | x::xs,y::ys,k,h=>by
  unfold eqZ at h;split at h
  ·rename_i a b h1 h2;obtain ⟨e,he,hk⟩:=Xy h2;have h':(a && b)=k:=Option.some.inj h
   refine ⟨λj=>match j with | 0=>a | j + 1=>e j,λj x' y' e1 e2=> ?_,?_⟩
   ·cases j with
    | zero=>simp at e1 e2;subst e1;subst e2;exact h1
    | succ j=>exact he j x' y' (by simpa using e1) (by simpa using e2)
   ·rw [<-h',hk];have:min (x::xs).length (y::ys).length=min xs.length ys.length + 1:=by simp only [List.length_cons];lia
    rw [this,List.range_succ_eq_map,List.all_cons,List.all_map]
    rfl
  ·cases h
theorem ZBW (s:Sim a G) {x:V} (r:Rep a d x):match view G d with
  | .flat v=>x=v/\Fb v=true
  | .lst xs=>∃p vs,x=.ref p/\SqL a.K a.H p vs/\Reps a xs vs
  | .tup xs=>∃p vs,x=.ref p/\SqT a.K a.H p vs/\Reps a xs vs
  | .bad=>True:=by
 cases d with
 | non=>exact ⟨r,rfl⟩
 | bl b=>exact ⟨r,rfl⟩
 | int b=>exact ⟨r,rfl⟩
 | str b=>exact ⟨r,rfl⟩
 | ty n=>trivial
 | tup xs=>
  obtain ⟨p,vs,e,h,q⟩:=r;exact ⟨p,vs,e,h,q⟩
 | fl xs=>
  obtain ⟨p,vs,e,h,q⟩:=r;exact ⟨p,vs,e,h.sq,q⟩
 | ref i=>
  unfold view;dsimp only;split
  ·rename_i v hv
   split at hv <;> cases hv
  ·rename_i xs hv;split at hv
   ·rename_i ys hi;cases hv;obtain ⟨vs,e1,r1⟩:=s.lst hi;exact ⟨a.m i,vs,r.2,.of e1,r1⟩
   ·cases hv
  ·rename_i xs hv
   split at hv <;> cases hv
  ·trivial
theorem ZLR {x:V} {u v:Value} (ry:RelV y u) (rx:RelV x v) (fy:Fb y=true) (fx:Fb x=true):SeqAt.RcAt A s u v (eqV y x):=by
 cases y with
 | non=>
  cases ry;cases x with
  | non=>cases rx;exact SeqAt.RcAt.none_none
  | bl b=>cases rx;exact SeqAt.RcAt.none_bool b
  | int b=>obtain ⟨t,rfl⟩:=rx;exact SeqAt.RcAt.none_int b t
  | str b=>obtain ⟨t,rfl⟩:=rx;exact SeqAt.RcAt.none_str b t
  | _=>exact absurd (show false=true from fx) Bool.false_ne_true
 | bl a=>
  cases ry;cases x with
  | non=>cases rx;exact SeqAt.RcAt.bool_none a
  | bl b=>cases rx;exact SeqAt.RcAt.bool_bool a b
  | int b=>obtain ⟨t,rfl⟩:=rx;exact SeqAt.RcAt.bool_int a b t
  | str b=>obtain ⟨t,rfl⟩:=rx;exact SeqAt.RcAt.bool_str a b t
  | _=>exact absurd (show false=true from fx) Bool.false_ne_true
 | int a=>
  obtain ⟨t',rfl⟩:=ry;cases x with
  | non=>cases rx;exact SeqAt.RcAt.int_none a t'
  | bl b=>cases rx;exact SeqAt.RcAt.int_bool a t' b
  | int b=>obtain ⟨t,rfl⟩:=rx;exact SeqAt.RcAt.int_int a t' b t
  | str b=>obtain ⟨t,rfl⟩:=rx;exact SeqAt.RcAt.int_str a t' b t
  | _=>exact absurd (show false=true from fx) Bool.false_ne_true
 | str a=>
  obtain ⟨t',rfl⟩:=ry;cases x with
  | non=>cases rx;exact SeqAt.RcAt.str_none a t'
  | bl b=>cases rx;exact SeqAt.RcAt.str_bool a t' b
  | int b=>obtain ⟨t,rfl⟩:=rx;exact SeqAt.RcAt.str_int a t' b t
  | str b=>obtain ⟨t,rfl⟩:=rx;exact SeqAt.RcAt.str_str a t' b t
  | _=>exact absurd (show false=true from fx) Bool.false_ne_true
 | _=>exact absurd (show false=true from fy) Bool.false_ne_true
theorem ZQm {x:V} {u v:Value} (ry:RelV y u) (rx:RelV x v) (fy:Fb y=true) (fx:Fb x=true):SeqAt.RcNeAt A s u v (!eqV y x):=by
 cases y with
 | non=>
  cases ry;cases x with
  | non=>cases rx;exact SeqAt.RcNeAt.none_none
  | bl b=>cases rx;exact SeqAt.RcNeAt.none_bool b
  | int b=>obtain ⟨t,rfl⟩:=rx;exact SeqAt.RcNeAt.none_int b t
  | str b=>obtain ⟨t,rfl⟩:=rx;exact SeqAt.RcNeAt.none_str b t
  | _=>exact absurd (show false=true from fx) Bool.false_ne_true
 | bl a=>
  cases ry;cases x with
  | non=>cases rx;exact SeqAt.RcNeAt.bool_none a
  | bl b=>cases rx;exact SeqAt.RcNeAt.bool_bool a b
  | int b=>obtain ⟨t,rfl⟩:=rx;exact SeqAt.RcNeAt.bool_int a b t
  | str b=>obtain ⟨t,rfl⟩:=rx;exact SeqAt.RcNeAt.bool_str a b t
  | _=>exact absurd (show false=true from fx) Bool.false_ne_true
 | int a=>
  obtain ⟨t',rfl⟩:=ry;cases x with
  | non=>cases rx;exact SeqAt.RcNeAt.int_none a t'
  | bl b=>cases rx;exact SeqAt.RcNeAt.int_bool a t' b
  | int b=>obtain ⟨t,rfl⟩:=rx;exact SeqAt.RcNeAt.int_int a t' b t
  | str b=>obtain ⟨t,rfl⟩:=rx;exact SeqAt.RcNeAt.int_str a t' b t
  | _=>exact absurd (show false=true from fx) Bool.false_ne_true
 | str a=>
  obtain ⟨t',rfl⟩:=ry;cases x with
  | non=>cases rx;exact SeqAt.RcNeAt.str_none a t'
  | bl b=>cases rx;exact SeqAt.RcNeAt.str_bool a t' b
  | int b=>obtain ⟨t,rfl⟩:=rx;exact SeqAt.RcNeAt.str_int a t' b t
  | str b=>obtain ⟨t,rfl⟩:=rx;exact SeqAt.RcNeAt.str_str a t' b t
  | _=>exact absurd (show false=true from fx) Bool.false_ne_true
 | _=>exact absurd (show false=true from fy) Bool.false_ne_true
end
section
variable {X:Cx} {E:XK} {pins:List (Addr×Obj)} {σ:St} {s:Shared}
theorem ZMs (v:V) (h:Fb v=true):eqV v v=true:=by cases v <;> first | rfl | exact absurd (show false=true from h) Bool.false_ne_true | (simp [eqV])
theorem ZGN (I:Inv X pins σ a.H s) (hk:a.K=X.K) (sm:Sim a G):∀(n:Nat) {d e:D} {x:V} {k:Bool},Rep a d x->Rep a e x->eqD n G d e=some k->k=true
 | 0,_,_,_,_,_,_,h=>by cases h
 | n + 1,d,e,x,k,rd,re,h=>by
  have vd:=ZBW sm rd;have ve:=ZBW sm re;have items:∀{xs ys:List D} {vs:List V} {b:Bool},Reps a xs vs->Reps a ys vs->eqZ (eqD n G) xs ys=some b->b=true:=λ{xs ys vs b} r1 r2 hz=>by obtain ⟨f,hf,hb⟩:=Xy hz;rw [hb,List.all_eq_true];intro j hj;have hj':j < min xs.length ys.length:=List.mem_range.mp hj;have h1:xs[j]? =some (xs[j]'(by lia)):=List.getElem?_eq_getElem (by lia);have h2:ys[j]? =some (ys[j]'(by lia)):=List.getElem?_eq_getElem (by lia);obtain ⟨v1,e1,q1⟩:=r1.get h1;obtain ⟨v2,e2,q2⟩:=r2.get h2;rw [e1] at e2;cases e2;exact ZGN I hk sm n q1 q2 (hf j _ _ h1 h2)
  unfold eqD at h
  try dsimp only at h
  revert h vd ve
  cases view G d <;> cases view G e <;> intro vd ve h <;> dsimp only at h vd ve <;> first
   | cases h
   | skip
  ·
   rename_i v w;obtain ⟨rfl,f1⟩:=vd;obtain ⟨rfl,f2⟩:=ve;exact ZMs _ f1
  ·obtain ⟨rfl,f1⟩:=vd;obtain ⟨p,vs,e1,_⟩:=ve;subst e1;cases f1
  ·obtain ⟨rfl,f1⟩:=vd;obtain ⟨p,vs,e1,_⟩:=ve;subst e1;cases f1
  ·obtain ⟨rfl,f1⟩:=ve;obtain ⟨p,vs,e1,_⟩:=vd;subst e1;cases f1
  ·obtain ⟨p,vs,e1,h1,r1⟩:=vd;obtain ⟨p',vs',e2,h2,r2⟩:=ve;rw [e1] at e2;cases e2;rw [hk] at h1 h2;cases I.ZC7 h1 h2;split at h
   ·exact items r1 r2 h
   ·rename_i hl;exact absurd (r1.length.trans r2.length.symm) hl
  ·obtain ⟨p,vs,e1,h1,r1⟩:=vd;obtain ⟨p',vs',e2,h2,r2⟩:=ve;rw [e1] at e2;cases e2;rw [hk] at h1 h2;obtain ⟨_,_,pl,_⟩:=I.list h1;obtain ⟨_,_,pt,_⟩:=I.tuple h2;exact absurd rfl (SeqAt.ne_of_list_tuple pl.isList pt)
  ·obtain ⟨rfl,f1⟩:=ve;obtain ⟨p,vs,e1,_⟩:=vd;subst e1;cases f1
  ·obtain ⟨p,vs,e1,h1,r1⟩:=vd;obtain ⟨p',vs',e2,h2,r2⟩:=ve;rw [e1] at e2;cases e2;rw [hk] at h1 h2;obtain ⟨_,_,pl,_⟩:=I.list h2;obtain ⟨_,_,pt,_⟩:=I.tuple h1;exact absurd rfl (SeqAt.ne_of_list_tuple pl.isList pt)
  ·obtain ⟨p,vs,e1,h1,r1⟩:=vd;obtain ⟨p',vs',e2,h2,r2⟩:=ve;rw [e1] at e2;cases e2;rw [hk] at h1 h2;cases I.ZC4 h1 h2;split at h
   ·rename_i b hz;have h':(b && _)=k:=Option.some.inj h;rw [<-h',items r1 r2 hz,r1.length,r2.length];simp
   ·cases h
theorem Va {its:List Value} (r:Reps a xs vs) (q:Vals vs its) (h:j < its.toArray.size):∃d v,xs[j]? =some d/\Rep a d v/\RelV v its.toArray[j]:=by
 have hl:j < its.length:=by simpa using h
 have h2:j < vs.length:=by rw [q.length];exact hl
 obtain ⟨v,e1⟩:∃v,vs[j]? =some v:=⟨vs[j],List.getElem?_eq_getElem h2⟩;obtain ⟨d,e2,rd⟩:=r.get' e1;obtain ⟨u,e3,ru⟩:=q.get e1;have e4:u=its.toArray[j]:=by have:its[j]? =some its[j]:=List.getElem?_eq_getElem hl;rw [this] at e3;simpa using (Option.some.inj e3).symm
 exact ⟨d,v,e2,rd,by rw [<-e4];exact ru⟩
theorem ZBv (I:Inv X pins σ a.H s) (hk:a.K=X.K) (sm:Sim a G):∀(n:Nat) {A:Around} {d e:D} {x y:V} {u w:Value} {k:Bool},A.units + n < cLine->Rep a d x->Rep a e y->RelV x u->RelV y w->eqD n G d e=some k->
  SeqAt.EqAt A s u w k/\SeqAt.RcAt A s u w k/\SeqAt.RcNeAt A s u w (!k)
 | 0,_,_,_,_,_,_,_,_,_,_,_,_,_,h=>by cases h
 | n + 1,A,d,e,x,y,u,w,k,hu,rd,re,ru,rw',h=>by
  have vd:=ZBW sm rd;have ve:=ZBW sm re;have hu1:A.units < cLine:=by lia
  have hu2:A.in1.units + n < cLine:=by show A.units + 1 + n < cLine;lia
  have same:∀{z:V},Rep a d z->Rep a e z->eqD (n + 1) G d e=some k->k=true:=λr1 r2 r3=>ZGN I hk sm (n + 1) r1 r2 r3
  have h0:=h;unfold eqD at h
  try dsimp only at h
  have refs:∀{p q:Addr} {k:Bool},(p=q->k=true)->SeqAt.RcAt A s (.ref p) (.ref q) k->SeqAt.EqAt A s (.ref p) (.ref q) k:=λ{p q k} hs hr=>by
   by_cases e:p=q
   ·rw [hs e,e];exact SeqAt.EqAt.same _
   ·exact SeqAt.EqAt.of_refs e hr
  revert h vd ve
  cases hvd:view G d <;> cases hve:view G e <;> intro vd ve h <;> dsimp only at h vd ve <;> first
   | cases h
   | skip
  ·
   obtain ⟨rfl,f1⟩:=vd;obtain ⟨rfl,f2⟩:=ve;exact ⟨ZHy ru rw' f1 f2,ZLR ru rw' f1 f2,ZQm ru rw' f1 f2⟩
  ·
   obtain ⟨rfl,f1⟩:=vd;obtain ⟨q,vs,rfl,h2,r2⟩:=ve;cases rw';rw [hk] at h2;obtain ⟨its,qv,pl,_⟩:=I.list h2;cases x with
   | non=>cases ru;exact ⟨SeqAt.EqAt.none_list pl.isList hu1,SeqAt.RcAt.none_list pl.isList hu1,SeqAt.RcNeAt.none_list pl.isList hu1⟩
   | bl b=>cases ru;exact ⟨SeqAt.EqAt.bool_list b pl.isList hu1,SeqAt.RcAt.bool_list b pl.isList hu1,SeqAt.RcNeAt.bool_list b pl.isList hu1⟩
   | int b=>obtain ⟨t,rfl⟩:=ru;exact ⟨SeqAt.EqAt.int_list b t pl.isList hu1,SeqAt.RcAt.int_list b t pl.isList hu1,SeqAt.RcNeAt.int_list b t pl.isList hu1⟩
   | str b=>obtain ⟨t,rfl⟩:=ru;exact ⟨SeqAt.EqAt.str_list b t pl.isList hu1,SeqAt.RcAt.str_list b t pl.isList hu1,SeqAt.RcNeAt.str_list b t pl.isList hu1⟩
   | _=>exact absurd (show false=true from f1) Bool.false_ne_true
  ·
   obtain ⟨rfl,f1⟩:=vd;obtain ⟨q,vs,rfl,h2,r2⟩:=ve;cases rw';rw [hk] at h2;obtain ⟨its,qv,pl,_⟩:=I.tuple h2;cases x with
   | non=>cases ru;exact ⟨SeqAt.EqAt.none_tuple pl hu1,SeqAt.RcAt.none_tuple pl hu1,SeqAt.RcNeAt.none_tuple pl hu1⟩
   | bl b=>cases ru;exact ⟨SeqAt.EqAt.bool_tuple b pl hu1,SeqAt.RcAt.bool_tuple b pl hu1,SeqAt.RcNeAt.bool_tuple b pl hu1⟩
   | int b=>obtain ⟨t,rfl⟩:=ru;exact ⟨SeqAt.EqAt.int_tuple b t pl hu1,SeqAt.RcAt.int_tuple b t pl hu1,SeqAt.RcNeAt.int_tuple b t pl hu1⟩
   | str b=>obtain ⟨t,rfl⟩:=ru;exact ⟨SeqAt.EqAt.str_tuple b t pl hu1,SeqAt.RcAt.str_tuple b t pl hu1,SeqAt.RcNeAt.str_tuple b t pl hu1⟩
   | _=>exact absurd (show false=true from f1) Bool.false_ne_true
  ·
   obtain ⟨rfl,f1⟩:=ve;obtain ⟨q,vs,rfl,h2,r2⟩:=vd;cases ru;rw [hk] at h2;obtain ⟨its,qv,pl,_⟩:=I.list h2;cases y with
   | non=>cases rw';exact ⟨SeqAt.EqAt.list_none pl.isList hu1,SeqAt.RcAt.list_none pl.isList hu1,SeqAt.RcNeAt.list_none pl.isList hu1⟩
   | bl b=>cases rw';exact ⟨SeqAt.EqAt.list_bool b pl.isList hu1,SeqAt.RcAt.list_bool b pl.isList hu1,SeqAt.RcNeAt.list_bool b pl.isList hu1⟩
   | int b=>obtain ⟨t,rfl⟩:=rw';exact ⟨SeqAt.EqAt.list_int b t pl.isList hu1,SeqAt.RcAt.list_int b t pl.isList hu1,SeqAt.RcNeAt.list_int b t pl.isList hu1⟩
   | str b=>obtain ⟨t,rfl⟩:=rw';exact ⟨SeqAt.EqAt.list_str b t pl.isList hu1,SeqAt.RcAt.list_str b t pl.isList hu1,SeqAt.RcNeAt.list_str b t pl.isList hu1⟩
   | _=>exact absurd (show false=true from f1) Bool.false_ne_true
  ·
   obtain ⟨p,vs,rfl,h1,r1⟩:=vd;obtain ⟨q,vs',rfl,h2,r2⟩:=ve;cases ru;cases rw';rw [hk] at h1 h2;obtain ⟨its,q1,p1,_⟩:=I.list h1;obtain ⟨its',q2,p2,_⟩:=I.list h2;have sz1:its.toArray.size=vs.length:=by rw [List.size_toArray];exact q1.length.symm
   have sz2:its'.toArray.size=vs'.length:=by rw [List.size_toArray];exact q2.length.symm
   split at h
   ·rename_i hl;obtain ⟨f,hf,hb⟩:=Xy h;have hsz:its.toArray.size=its'.toArray.size:=by rw [sz1,sz2,<-r1.length,<-r2.length];exact hl
    have he:∀j (g1:j < its.toArray.size) (g2:j < its'.toArray.size),SeqAt.EqAt A.in1 s its.toArray[j] its'.toArray[j] (f j):=λj g1 g2=>by obtain ⟨d1,v1,e1,rd1,rv1⟩:=Va r1 q1 g1;obtain ⟨d2,v2,e2,rd2,rv2⟩:=Va r2 q2 g2;exact (ZBv I hk sm n hu2 rd1 rd2 rv1 rv2 (hf j d1 d2 e1 e2)).1
    have hk':k=(List.range its.toArray.size).all f:=by
     rw [hb]
     congr 2
     rw [sz1,<-r1.length,hl];lia
    have rc:SeqAt.RcAt A s (.ref p) (.ref q) k:=by rw [hk'];exact SeqAt.RcAt.lists p1.isList p2.isList hsz hu1 he
    refine ⟨refs (λe=> ?_) rc,rc,by rw [hk'];exact SeqAt.RcNeAt.lists p1.isList p2.isList hsz hu1 he⟩;subst e;exact same rd re h0
   ·rename_i hl;have h':false=k:=Option.some.inj h;subst h';have hsz:(its.toArray.size != its'.toArray.size)=true:=by rw [bne_iff_ne,sz1,sz2,<-r1.length,<-r2.length];exact hl
    refine ⟨refs (λe=> ?_) (SeqAt.RcAt.lists_lengths p1.isList p2.isList hsz hu1),SeqAt.RcAt.lists_lengths p1.isList p2.isList hsz hu1,SeqAt.RcNeAt.lists_lengths p1.isList p2.isList hsz hu1⟩;subst e;exact same rd re h0
  ·
   obtain ⟨p,vs,rfl,h1,r1⟩:=vd;obtain ⟨q,vs',rfl,h2,r2⟩:=ve;cases ru;cases rw';rw [hk] at h1 h2;obtain ⟨its,q1,p1,_⟩:=I.list h1;obtain ⟨its',q2,p2,_⟩:=I.tuple h2;exact ⟨SeqAt.EqAt.list_tuple p1.isList p2 hu1,SeqAt.RcAt.list_tuple p1.isList p2 hu1,SeqAt.RcNeAt.list_tuple p1.isList p2 hu1⟩
  ·
   obtain ⟨rfl,f1⟩:=ve;obtain ⟨q,vs,rfl,h2,r2⟩:=vd;cases ru;rw [hk] at h2;obtain ⟨its,qv,pl,_⟩:=I.tuple h2;cases y with
   | non=>cases rw';exact ⟨SeqAt.EqAt.tuple_none pl hu1,SeqAt.RcAt.tuple_none pl hu1,SeqAt.RcNeAt.tuple_none pl hu1⟩
   | bl b=>cases rw';exact ⟨SeqAt.EqAt.tuple_bool b pl hu1,SeqAt.RcAt.tuple_bool b pl hu1,SeqAt.RcNeAt.tuple_bool b pl hu1⟩
   | int b=>obtain ⟨t,rfl⟩:=rw';exact ⟨SeqAt.EqAt.tuple_int b t pl hu1,SeqAt.RcAt.tuple_int b t pl hu1,SeqAt.RcNeAt.tuple_int b t pl hu1⟩
   | str b=>obtain ⟨t,rfl⟩:=rw';exact ⟨SeqAt.EqAt.tuple_str b t pl hu1,SeqAt.RcAt.tuple_str b t pl hu1,SeqAt.RcNeAt.tuple_str b t pl hu1⟩
   | _=>exact absurd (show false=true from f1) Bool.false_ne_true
  ·
   obtain ⟨p,vs,rfl,h1,r1⟩:=vd;obtain ⟨q,vs',rfl,h2,r2⟩:=ve;cases ru;cases rw';rw [hk] at h1 h2;obtain ⟨its,q1,p1,_⟩:=I.tuple h1;obtain ⟨its',q2,p2,_⟩:=I.list h2;exact ⟨SeqAt.EqAt.tuple_list p1 p2.isList hu1,SeqAt.RcAt.tuple_list p1 p2.isList hu1,SeqAt.RcNeAt.tuple_list p1 p2.isList hu1⟩
  ·
   rename_i xs ys;obtain ⟨p,vs,rfl,h1,r1⟩:=vd;obtain ⟨q,vs',rfl,h2,r2⟩:=ve;cases ru;cases rw';rw [hk] at h1 h2;obtain ⟨its,q1,p1,_⟩:=I.tuple h1;obtain ⟨its',q2,p2,_⟩:=I.tuple h2;have sz1:its.toArray.size=xs.length:=by rw [List.size_toArray,r1.length];exact q1.length.symm
   have sz2:its'.toArray.size=ys.length:=by rw [List.size_toArray,r2.length];exact q2.length.symm
   split at h
   ·rename_i b hz;have h':(b && xs.length == ys.length)=k:=Option.some.inj h;obtain ⟨f,hf,hb⟩:=Xy hz;have he:∀j (g1:j < its.toArray.size) (g2:j < its'.toArray.size),SeqAt.EqAt A.in1 s its.toArray[j] its'.toArray[j] (f j):=λj g1 g2=>by obtain ⟨d1,v1,e1,rd1,rv1⟩:=Va r1 q1 g1;obtain ⟨d2,v2,e2,rd2,rv2⟩:=Va r2 q2 g2;exact (ZBv I hk sm n hu2 rd1 rd2 rv1 rv2 (hf j d1 d2 e1 e2)).1
    have hk':k=((List.range (min its.toArray.size its'.toArray.size)).all f && its.toArray.size == its'.toArray.size):=by rw [<-h',hb,sz1,sz2]
    have rc:SeqAt.RcAt A s (.ref p) (.ref q) k:=by rw [hk'];exact SeqAt.RcAt.tuples p1 p2 hu1 he
    refine ⟨refs (λe=> ?_) rc,rc,by rw [hk'];exact SeqAt.RcNeAt.tuples p1 p2 hu1 he⟩;subst e;exact same rd re h0
   ·cases h
noncomputable def Dc (d e:D) (G:DH):R D:=match eqD 30 G d e with
 | some k=>.ok (.bl k) G
 | none=>.bad
noncomputable def J0 (d e:D) (G:DH):R D:=match eqD 30 G d e with
 | some k=>.ok (.bl (!k)) G
 | none=>.bad
theorem Dl (hu:X.A.units + 64 < cLine):OpR X (compareOp .Eq) (lR2 X.K E Dc):=by
 intro pins s σ H x y v u Q I rx ry ⟨a,G,d,e,hk,hH,sm,rd,re,q⟩;subst hH;unfold Dc at q;split at q
 ·rename_i k hd;exact (ZBv I hk sm 30 (by lia) rd re rx ry hd).2.1 _ _ _ _ ⟨.bl k,a.H,I,rfl,q a _ (Ext.refl a) sm rfl⟩
 ·exact q.elim
theorem Nt (hu:X.A.units + 64 < cLine):OpR X (compareOp .NotEq) (lR2 X.K E J0):=by
 intro pins s σ H x y v u Q I rx ry ⟨a,G,d,e,hk,hH,sm,rd,re,q⟩;subst hH;unfold J0 at q;split at q
 ·rename_i k hd;exact (ZBv I hk sm 30 (by lia) rd re rx ry hd).2.2 _ _ _ _ ⟨.bl (!k),a.H,I,rfl,q a _ (Ext.refl a) sm rfl⟩
 ·exact q.elim
end
noncomputable abbrev DG:=D->DSt->DH->R DSt
variable {g:DG}
noncomputable def Ga (E:XK) (a:Wd) (r:R DSt) (Q:St->Hp->Prop):Prop:=match r with
 | .ok S G=>∀(b:Wd) (σ:St),Ext a b->Sim b G->RepS b S σ->Q σ b.H
 | .err x G=>XOk E a x G
 | .bad=>False
noncomputable def lG (K:PySem.W.Frag) (E:XK) (t:DG):TG:=λv σ H Q=>∃(a:Wd) (S:DSt) (G:DH) (d:D),a.K=K/\a.H=H/\Sim a G/\RepS a S σ/\Rep a d v/\Ga E a (t d S G) Q
noncomputable def QG (X:Cx) (E:XK) (tg:Expr) (t:DG):Prop:=PG X tg (lG X.K E t)
noncomputable abbrev DGs:=List D->DSt->DH->R DSt
noncomputable def lGs (K:PySem.W.Frag) (E:XK) (t:DGs):TGs:=λvs σ H Q=>∃(a:Wd) (S:DSt) (G:DH) (ds:List D),a.K=K/\a.H=H/\Sim a G/\RepS a S σ/\Reps a ds vs/\Ga E a (t ds S G) Q
noncomputable def QGs (X:Cx) (E:XK) (tg:List Expr) (t:DGs):Prop:=PGs X tg (lGs X.K E t)
noncomputable def gV (i:Nat):DG:=λd S G=>.ok (S.set i (some d)) G
noncomputable def Cj:DGs:=λds S G=>match ds with
 | []=>.ok S G
 | _=>.bad
noncomputable def Ar (t:DG) (u:DGs):DGs:=λds S G=>match ds with
 | d::r=>(t d S G).bind λS1 G1=>u r S1 G1
 | []=>.bad
noncomputable def Cd (n:Nat) (t:DGs):DG:=λd S G=>match d with
 | .tup ds=>if ds.length=n then t ds S G else .bad
 | _=>.bad
theorem Ga.imp {r:R DSt} {Q Q':St->Hp->Prop} (h:Ga E a r Q) (w:∀v H,Q v H->Q' v H):Ga E a r Q':=by
 cases r with
 | ok d G=>exact λb v x s q=>w _ _ (h b v x s q)
 | err e G=>exact h
 | bad=>exact h
theorem Ga.mono (x:Ext a b) {r:R DSt} {Q:St->Hp->Prop} (h:Ga E a r Q):Ga E b r Q:=by
 cases r with
 | ok d G=>exact λc v y s q=>h c v (x.trans y) s q
 | err e G=>exact XOk.mono (E:=E) (e:=e) (G:=G) x h
 | bad=>exact h
theorem ZLI {r:R DSt} {f:DSt->DH->R DSt} {Q:St->Hp->Prop} (h:Ga E a (r.bind f) Q):
  Ga E a r (λσ H=>∃(b:Wd) (S:DSt) (G:DH),b.H=H/\Ext a b/\Sim b G/\RepS b S σ/\r=.ok S G/\Ga E b (f S G) Q):=by
 cases r with
 | ok d G=>exact λb v x s q=>⟨b,d,G,rfl,x,s,q,rfl,Ga.mono x h⟩
 | err e G=>exact h
 | bad=>exact h
theorem ZFe {f:D->DH->R DSt} {Q:St->Hp->Prop} (h:Ga E a (r.bind f) Q):
  out E a r (λv H=>∃(b:Wd) (d:D) (G:DH),b.H=H/\Ext a b/\Sim b G/\Rep b d v/\r=.ok d G/\Ga E b (f d G) Q):=by
 cases r with
 | ok d G=>exact λb v x s q=>⟨b,d,G,rfl,x,s,q,rfl,Ga.mono x h⟩
 | err e G=>exact h
 | bad=>exact h
theorem ZGS {r:R DSt} {f:DSt->DH->SR} (h:Cw E a (r.toS f) W):
  Ga E a r (λσ H=>∃(b:Wd) (S:DSt) (G:DH),b.H=H/\Ext a b/\Sim b G/\RepS b S σ/\r=.ok S G/\Cw E b (f S G) W):=by
 cases r with
 | ok d G=>exact λb v x s q=>⟨b,d,G,rfl,x,s,q,rfl,Cw.mono x h⟩
 | err e G=>exact h
 | bad=>exact h
section
variable {X:Cx} {E:XK}
theorem _root_.L2.PG.mono {t t':TG} (h:PG X e t) (w:∀v σ H Q,t' v σ H Q->t v σ H Q):PG X e t':=λpins s σ H v u Q I r q=>h pins s σ H v u Q I r (w v σ H Q q)
theorem _root_.L2.PGs.mono {e:List Expr} {t t':TGs} (h:PGs X e t) (w:∀v σ H Q,t' v σ H Q->t v σ H Q):PGs X e t':=λpins s σ H v u Q I r q=>h pins s σ H v u Q I r (w v σ H Q q)
theorem Bb (i:Nat) {pos:Pos} (hN:X.N.Nodup) (hi:X.N[i]? =some x:=by rfl) (hx:Loc X.env.scope x:=by first | exact Or.inl rfl | exact Or.inr rfl)
  (hf:X.fn x=true∨X.env.scope.names.lookup x=some .local:=by first | exact .inl rfl | exact .inr rfl | assumption):QG X E (.Name x pos) (gV i):=
 (ZRb hN hi hx hf).mono λv σ H Q h=>by obtain ⟨a,S,G,d,hk,rfl,s,r,q,h⟩:=h;exact h a _ (Ext.refl a) s (r.set i q)
theorem Hh:QGs X E [] Cj:=ZR2.mono λvs σ H Q h=>by
 obtain ⟨a,S,G,ds,hk,rfl,s,r,q,h⟩:=h;cases ds with
 | nil=>exact ⟨q,h a σ (Ext.refl a) s r⟩
 | cons d ds=>exact h.elim
theorem Dg {es:List Expr} {t:DG} {u:DGs} (h1:QG X E e t) (h2:QGs X E es u)
  (hs:(assignEach (e::es) X.env).map (·.2)=assign e X.env::(assignEach es X.env).map (·.2):=by rfl):QGs X E (e::es) (Ar t u):=(ZNE h1 h2 hs).mono λvs σ H Q h=>by
 obtain ⟨a,S,G,ds,hk,rfl,s,r,q,h⟩:=h;cases ds with
 | nil=>exact h.elim
 | cons d ds=>
  obtain ⟨v,rest,e1,q1,q2⟩:=q;refine ⟨v,rest,e1,a,S,G,d,hk,rfl,s,r,q1,(ZLI h).imp ?_⟩;rintro σ' _ ⟨b,S1,G1,rfl,x,s1,r1,_,h1⟩;exact ⟨b,S1,G1,ds,x.k.trans hk,rfl,s1,r1,q2.mono x,h1⟩
theorem Hd {es:List Expr} {k:Nat} {t:DGs} {n:Nat} {pos:Pos} (hc:X.calm=true) (h:QGs X E es t)
  (hn:(assignEach es X.env).length=n:=by rfl) (hst:(assignEach es X.env).findIdx? (·.1)=none:=by rfl):QG X E (.Tuple es k pos) (Cd n t):=(ZKc hc h hn hst).mono λv σ H Q h=>by
 obtain ⟨a,S,G,d,hk,rfl,s,r,q,h⟩:=h;cases d with
 | tup ds=>
  obtain ⟨p,vs,e,h1,r1⟩:=q;unfold Cd at h;dsimp only at h;split at h
  ·rename_i hl;exact ⟨p,vs,e,by rw [<-hk];exact h1,by rw [<-r1.length];exact hl,a,S,G,ds,hk,rfl,s,r,r1,h⟩
  ·exact h.elim
 | _=>exact h.elim
noncomputable def Lb (o i v:D) (G:DH):R D:=match o,i with
 | .ref p,.int k=>match G[p]? with
  | some (.lst xs)=>match ixN xs.length k with
   | some j=>.ok .non (G.set p (.lst (xs.set j v)))
   | none=>.bad
  | _=>.bad
 | _,_=>.bad
noncomputable def gIx (to ti:DE):DG:=λv S G=>(to S G).bind λo G1=>(ti S G1).bind λi G2=>(Lb o i v G2).bind λ_ G3=>.ok S G3
theorem ZEB {vs':List V} {ds':List D} (s:Sim a G) (hi:i < a.n) (h:a.H (a.m i)=some (.lst vs)) (r:Reps a ds' vs'):
  Ext a (a.put (a.m i) (.lst vs'))/\Sim (a.put (a.m i) (.lst vs')) (G.set i (.lst ds')):=⟨Ext.wr h,s.wr hi h (r.mono (Ext.wr h))⟩
theorem Z9 {o i:Expr} {to ti:DE} {pos:Pos} (ho:QE X E o to) (hi:QE X E i ti)
  (ha:∀v,assign (.Subscript o i pos) X.env v=(do
   let ov<-holding [v] (eval o X.env);let iv<-holding [v,ov] (eval i X.env)
   standAt pos
   holding [v,ov,iv] (setItem ov iv v)
   release [v,ov,iv] []):=by intro _;rfl):QG X E (.Subscript o i pos) (gIx to ti):=(ZQT ho hi set_list ha).mono λv σ H Q h=>by
 obtain ⟨a,S,G,d,hk,rfl,s,r,q,h⟩:=h;refine ⟨a,S,G,hk,rfl,s,r,(ZFe h).imp ?_⟩;rintro ov _ ⟨b,e,G1,rfl,x,s1,q1,_,h1⟩;refine ⟨b,S,G1,x.k.trans hk,rfl,s1,r.mono x,(ZFe h1).imp ?_⟩;rintro iv _ ⟨c,f,G2,rfl,y,s2,q2,_,h2⟩;cases e with
 | ref p=>
  cases f with
  | int k=>
   unfold Lb at h2;dsimp only at h2;split at h2
   ·rename_i xs hx;split at h2
    ·rename_i j hj;obtain ⟨vs,e1,r1⟩:=s2.lst hx;have q1':=q1.mono y;have rv:=(q.mono x).mono y;obtain ⟨x3,s3⟩:=ZEB s2 q1'.1 e1 (r1.set rv j);refine ⟨c.m p,vs,k,j,q1'.2,q2,e1,by rw [<-r1.length];exact hj,?_⟩;exact h2 _ σ x3 s3 (((r.mono x).mono y).mono x3)
    ·exact h2.elim
   ·exact h2.elim
  | _=>exact h2.elim
 | _=>exact h2.elim
variable {st:Stmt} {rest:List Stmt} {t u:DS} {e:Expr} {te:DE} {pos:Pos}
noncomputable def sNx:DS:=λS G=>.nx S G
noncomputable def Ah (t u:DS):DS:=λS G=>match t S G with
 | .nx S1 G1=>u S1 G1
 | r=>r
noncomputable def sEx (te:DE):DS:=λS G=>(te S G).toS λ_ G1=>.nx S G1
noncomputable def sRt (te:DE):DS:=λS G=>(te S G).toS λd G1=>.rt d G1
noncomputable def sIf (c:DB) (t u:DS):DS:=λS G=>(c S G).toS λk G1=>if k=true then t S G1 else u S G1
noncomputable def sAs (te:DE) (g:DG):DS:=λS G=>(te S G).toS λd G1=>(g d S G1).toS λS2 G2=>.nx S2 G2
noncomputable def sAu (i:Nat) (te:DE) (f:D->D->DH->R D):DS:=λS G=>match S[i]? with
 | some (some x)=>(te S G).toS λy G1=>(f x y G1).toS λz G2=>.nx (S.set i (some z)) G2
 | _=>.bad
theorem Bu:QSs X E [] sNx:=ZLp.mono λW σ H h=>by obtain ⟨a,S,G,hk,rfl,s,r,h⟩:=h;exact h a σ (Ext.refl a) s r
theorem Cw.nxOf {t:DS} (hk:a.K=K) (h:Cw E a (Ah t u S G) W):Cw E a (t S G) {W with nx:=lS K E u W}:=by
 unfold Ah at h
 revert h
 cases t S G <;> intro h
 ·exact λb σ x s r=>⟨b,_,_,x.k.trans hk,rfl,s,r,Cw.mono x h⟩
 all_goals exact h
theorem Aj (h1:QS X E st t) (h2:QSs X E rest u):QSs X E (st::rest) (Ah t u):=(ZQt h1 h2).mono λW σ H h=>by obtain ⟨a,S,G,hk,rfl,s,r,h⟩:=h;exact ⟨a,S,G,hk,rfl,s,r,h.nxOf hk⟩
theorem Am (h1:QS X E st t):QSs X E [st] t:=ZSG h1
theorem Ey (he:QE X E e te) (hs:swapsWith e none pos.line X.env=pure false:=by rfl):QS X E (.Expr e pos) (sEx te):=(ZOD he hs).mono λW σ H h=>by obtain ⟨a,S,G,hk,rfl,s,r,h⟩:=h;refine ⟨a,S,G,hk,rfl,s,r,(Hk h).imp ?_⟩;rintro v _ ⟨b,d,G1,rfl,x,s1,q,_,h1⟩;exact h1 b σ (Ext.refl b) s1 (r.mono x)
theorem Bk (he:QE X E e te):QS X E (.Return (some e) pos) (sRt te):=(ZQc he).mono λW σ H h=>by obtain ⟨a,S,G,hk,rfl,s,r,h⟩:=h;refine ⟨a,S,G,hk,rfl,s,r,(Hk h).imp ?_⟩;rintro v _ ⟨b,d,G1,rfl,x,s1,q,_,h1⟩;exact h1 b v (Ext.refl b) s1 q
theorem Br {c:Expr} {tc:DB} {a b:List Stmt} (hc:QT X E c tc) (ha:QSs X E a t) (hb:QSs X E b u):QS X E (.If c a b pos) (sIf tc t u):=(ZRU hc ha hb).mono λW σ H h=>by
 obtain ⟨a,S,G,hk,rfl,s,r,h⟩:=h;refine ⟨a,S,G,hk,rfl,s,r,(ZJs h).imp ?_⟩;rintro k _ ⟨b,G1,rfl,x,s1,_,h1⟩;cases k with
 | true=>exact ⟨b,S,G1,x.k.trans hk,rfl,s1,r.mono x,h1⟩
 | false=>exact ⟨b,S,G1,x.k.trans hk,rfl,s1,r.mono x,h1⟩
theorem ZKL (h:lS K E (sAs te g) W σ H):ZD0 (lE K E te) (lG K E g) W σ H:=by obtain ⟨a,S,G,hk,rfl,s,r,h⟩:=h;refine ⟨a,S,G,hk,rfl,s,r,(Hk h).imp ?_⟩;rintro v _ ⟨b,d,G1,rfl,x,s1,q,_,h1⟩;refine ⟨b,S,G1,d,x.k.trans hk,rfl,s1,r.mono x,q,(ZGS h1).imp ?_⟩;rintro σ' _ ⟨c,S2,G2,rfl,y,s2,r2,_,h2⟩;exact h2 c σ' (Ext.refl c) s2 r2
theorem Od (he:QE X E e te) (hg:QG X E tg g) (hs:swapsWithSole [tg] e pos.line X.env=pure false:=by rfl) (hw:swappedStores [tg] e X.env=pure none:=by rfl)
  (h1:(assignEach [tg] X.env).map (·.2)= [assign tg X.env]:=by rfl):QS X E (.Assign [tg] e pos) (sAs te g):=(ZOq he hg hs hw h1).mono λ_ _ _ h=>ZKL h
theorem An (i:Nat) {pos':Pos} (hN:X.N.Nodup) (he:QE X E e te) (hi:X.N[i]? =some x:=by rfl) (hx:Loc X.env.scope x:=by first | exact Or.inl rfl | exact Or.inr rfl) (hs:swapsWith e (some (.Name x pos')) pos.line X.env=pure false:=by rfl)
  (hf:X.fn x=true∨X.env.scope.names.lookup x=some .local:=by first | exact .inl rfl | exact .inr rfl | assumption):QS X E (.Assign [.Name x pos'] e pos) (sAs te (gV i)):=
 (ZPA hN hi hx he hs hf).mono λW σ H h=>by obtain ⟨a,S,G,hk,rfl,s,r,h⟩:=h;refine ⟨a,S,G,hk,rfl,s,r,(Hk h).imp ?_⟩;rintro v _ ⟨b,d,G1,rfl,x,s1,q,_,h1⟩;exact h1 b _ (Ext.refl b) s1 ((r.mono x).set i q)
theorem ZIh (i:Nat) {op:Operator} {pos':Pos} (hN:X.N.Nodup) (he:QE X E e te) (ho:OpR X (inplaceOp op) (lR2 X.K E f)) (hi:X.N[i]? =some x:=by rfl) (hx:Loc X.env.scope x:=by first | exact Or.inl rfl | exact Or.inr rfl)
  (hf:X.fn x=true∨X.env.scope.names.lookup x=some .local:=by first | exact .inl rfl | exact .inr rfl | assumption):QS X E (.AugAssign (.Name x pos') op e pos) (sAu i te f):=
 (ZKF (ti:=lR2 X.K E f) hN hi hx he ho hf).mono λW σ H h=>by
  obtain ⟨a,S,G,hk,rfl,s,r,h⟩:=h;unfold sAu at h;split at h
  ·rename_i d hd;obtain ⟨v,e1,q⟩:=r.get i d hd;refine ⟨v,e1,a,S,G,hk,rfl,s,r,(Hk h).imp ?_⟩;rintro w _ ⟨b,d1,G1,rfl,x,s1,q1,_,h1⟩;refine ⟨b,G1,d,d1,x.k.trans hk,rfl,s1,q.mono x,q1,(Hk h1).imp ?_⟩;rintro z _ ⟨c,d2,G2,rfl,y,s2,q2,_,h2⟩;exact h2 c _ (Ext.refl c) s2 (((r.mono x).mono y).set i q2)
  ·exact h.elim
noncomputable def M8:D->D->DH->R D
 | .int i,.int j,G=>.ok (.int (i + j)) G
 | .str i,.str j,G=>if i.length + j.length<=1000000 then .ok (.str (i++j)) G else .bad
 | _,_,_=>.bad
theorem Ut:OpR X (inplaceOp .Add) (lR2 X.K E M8):=Gy (OpR.or (r:=ipI λi j=>i + j) ZNS ZRr) λa G d e x y Q hk s rd re q=>by
 cases d <;> cases e <;> first
  | exact q.elim
  | exact .inl ⟨_,_,rd,re,q a _ (Ext.refl a) s rfl⟩
  | (
    unfold M8 at q;dsimp only at q;split at q
    ·rename_i hl;exact .inr ⟨_,_,rd,re,Nat.le_trans hl size6,q a _ (Ext.refl a) s rfl⟩
    ·exact q.elim)
theorem ZN1:OpR X (inplaceOp .Sub) (lR2 X.K E Em):=Gy (r:=ipI λi j=>i - j) ZL0 λa G d e x y Q hk s rd re q=>by
 cases d <;> cases e <;> first
  | exact q.elim
  | exact ⟨_,_,rd,re,q a _ (Ext.refl a) s rfl⟩
end
noncomputable def aft (r:SR) (k:DSt->DH->SR):SR:=match r with
 | .nx S G=>k S G
 | .ct S G=>k S G
 | .bk S G=>.nx S G
 | r=>r
noncomputable def Bg (g:DG) (b:DS):List D->DS
 | [],S,G=>.nx S G
 | x::xs,S,G=>(g x S G).toS λS1 G1=>aft (b S1 G1) (Bg g b xs)
noncomputable def forM (i:Nat) (g:DG) (b:DS):Nat->Nat->DS
 | 0,j,S,G=>match G[i]? with
  | some (.lst xs)=>if xs.length<=j then .nx S G else .bad
  | _=>.bad
 | k + 1,j,S,G=>match G[i]? with
  | some (.lst xs)=>match xs[j]? with
   | some x=>(g x S G).toS λS1 G1=>aft (b S1 G1) (forM i g b k (j + 1))
   | none=>.nx S G
  | _=>.bad
noncomputable def Ef (f:Nat->DH->Option (Option D)) (g:DG) (b:DS):Nat->Nat->DS
 | 0,j,S,G=>match f j G with
  | some none=>.nx S G
  | _=>.bad
 | k + 1,j,S,G=>match f j G with
  | some (some x)=>(g x S G).toS λS1 G1=>aft (b S1 G1) (Ef f g b k (j + 1))
  | some none=>.nx S G
  | none=>.bad
inductive ItD where
 | pure (xs:List D)
 | mt (i:Nat)
 | fn (n:Nat) (f:Nat->DH->Option (Option D))
noncomputable abbrev DI:=DSt->DH->R ItD
noncomputable def Dv (it:DI) (g:DG) (b:DS):DS:=λS G=>(it S G).toS λJ G1=>match J with
 | .pure xs=>Bg g b xs S G1
 | .mt i=>match G1[i]? with
  | some (.lst xs)=>forM i g b xs.length 0 S G1
  | _=>.bad
 | .fn n f=>Ef f g b n 0 S G1
noncomputable def RepI (a:Wd):ItD->It->Prop
 | .pure xs,J=>∃vs:List V,Reps a xs vs/\∀b:Wd,Ext a b->∀i,(∀v,vs[i]? =some v->J.go i b.H/\∀x H',J.yld i b.H x H'->x=v/\H'=b.H)/\(vs.length<=i->J.stop i b.H)
 | .mt k,J=>k < a.n/\∀b:Wd,Ext a b->∀vs,b.H (b.m k)=some (.lst vs)->∀i,(∀v,vs[i]? =some v->J.go i b.H/\∀x H',J.yld i b.H x H'->x=v/\H'=b.H)/\(vs.length<=i->J.stop i b.H)
 | .fn _ f,J=>∀b:Wd,Ext a b->∀G,Sim b G->∀i,(∀d,f i G=some (some d)->J.go i b.H/\∀x H',J.yld i b.H x H'->∃c:Wd,c.H=H'/\Ext b c/\Sim c G/\Rep c d x)/\(f i G=some none->J.stop i b.H)
noncomputable def outI (E:XK) (a:Wd) (r:R ItD) (Q:It->Hp->Prop):Prop:=match r with
 | .ok J G=>∀(b:Wd) (JJ:It),Ext a b->Sim b G->RepI b J JJ->Q JJ b.H
 | .err x G=>XOk E a x G
 | .bad=>False
noncomputable def lI (K:PySem.W.Frag) (E:XK) (t:DI):TI:=λσ H Q=>∃(a:Wd) (S:DSt) (G:DH),a.K=K/\a.H=H/\Sim a G/\RepS a S σ/\outI E a (t S G) Q
noncomputable def QI (X:Cx) (E:XK) (tg iter:Expr) (t:DI):Prop:=PI X tg iter (lI X.K E t)
theorem outI.imp {r:R ItD} {Q Q':It->Hp->Prop} (h:outI E a r Q) (w:∀v H,Q v H->Q' v H):outI E a r Q':=by
 cases r with
 | ok d G=>exact λb v x s q=>w _ _ (h b v x s q)
 | err e G=>exact h
 | bad=>exact h
theorem ZKV {r:R ItD} {f:ItD->DH->SR} (h:Cw E a (r.toS f) W):
  outI E a r (λJ H=>∃(b:Wd) (d:ItD) (G:DH),b.H=H/\Ext a b/\Sim b G/\RepI b d J/\r=.ok d G/\Cw E b (f d G) W):=by
 cases r with
 | ok d G=>exact λb v x s q=>⟨b,d,G,rfl,x,s,q,rfl,Cw.mono x h⟩
 | err e G=>exact h
 | bad=>exact h
theorem ZG3 {r:SR} {k:DSt->DH->SR} (h:Cw E a (aft r k) W):
  Cw E a r {W with
            nx:=λσ H=>∃(b:Wd) (S:DSt) (G:DH),b.H=H/\Ext a b/\Sim b G/\RepS b S σ/\Cw E b (k S G) W,
            ct:=λσ H=>∃(b:Wd) (S:DSt) (G:DH),b.H=H/\Ext a b/\Sim b G/\RepS b S σ/\Cw E b (k S G) W,bk:=W.nx}:=by
 cases r with
 | nx S G=>exact λb σ x s q=>⟨b,S,G,rfl,x,s,q,Cw.mono x h⟩
 | ct S G=>exact λb σ x s q=>⟨b,S,G,rfl,x,s,q,Cw.mono x h⟩
 | bk S G=>exact h
 | rt d G=>exact h
 | err x G=>exact h
 | bad=>exact h
noncomputable def mtF (i j:Nat) (G:DH):Option (Option D):=match G[i]? with
 | some (.lst xs)=>some xs[j]?
 | _=>none
theorem ZH4 {J:It} {n:Nat} (r:RepI a (.pure xs) J):RepI a (.fn n λj _=>some xs[j]?) J:=by
 obtain ⟨vs,rv,h⟩:=r;refine λb x G sm i=>⟨λd e=> ?_,λe=> ?_⟩
 ·obtain ⟨v,ev,q⟩:=rv.get (Option.some.inj e);obtain ⟨h1,h2⟩:=(h b x i).1 v ev;refine ⟨h1,λy H' hy=> ?_⟩;obtain ⟨rfl,rfl⟩:=h2 y H' hy;exact ⟨b,rfl,Ext.refl b,sm,q.mono x⟩
 ·exact (h b x i).2 (by rw [<-rv.length];exact List.getElem?_eq_none_iff.mp (Option.some.inj e))
theorem ZJP {J:It} {n:Nat} (r:RepI a (.mt k) J):RepI a (.fn n (mtF k)) J:=by
 obtain ⟨hk,h⟩:=r;refine λb x G sm i=> ?_
 unfold mtF;cases hG:G[k]? with
 | none=>exact ⟨λd e=>(by cases e),λe=>(by cases e)⟩
 | some o=>
  cases o with
  | lst xs=>
   obtain ⟨vs,e1,rv⟩:=sm.lst hG;refine ⟨λd e=> ?_,λe=> ?_⟩
   ·obtain ⟨v,ev,q⟩:=rv.get (Option.some.inj e);obtain ⟨h1,h2⟩:=(h b x vs e1 i).1 v ev;refine ⟨h1,λy H' hy=> ?_⟩;obtain ⟨rfl,rfl⟩:=h2 y H' hy;exact ⟨b,rfl,Ext.refl b,sm,q⟩
   ·exact (h b x vs e1 i).2 (by rw [<-rv.length];exact List.getElem?_eq_none_iff.mp (Option.some.inj e))
  | _=>exact ⟨λd e=>(by cases e),λe=>(by cases e)⟩
theorem ZJB {b:DS} :∀(n j:Nat),j + n=xs.length->Bg g b (xs.drop j)=Ef (λj _=>some xs[j]?) g b n j
 | 0,j,h=>by
  funext S G;rw [List.drop_of_length_le (by lia)]
  show SR.nx S G=(match some xs[j]? with | some none=>SR.nx S G | _=>.bad)
  rw [List.getElem?_eq_none (by lia)]
 | n + 1,j,h=>by
  funext S G;have hj:j < xs.length:=by lia
  rw [List.drop_eq_getElem_cons hj]
  show (g xs[j] S G).toS (λS1 G1=>aft (b S1 G1) (Bg g b (xs.drop (j + 1))))=(match some xs[j]? with | some (some x)=>(g x S G).toS (λS1 G1=>aft (b S1 G1) (Ef (λj _=>some xs[j]?) g b n (j + 1))) | some none=>SR.nx S G | none=>.bad)
  rw [List.getElem?_eq_getElem hj,ZJB n (j + 1) (by lia)]
theorem ZIq {b:DS} :∀(n j:Nat),forM i g b n j=Ef (mtF i) g b n j
 | 0,j=>by
  funext S G;unfold forM Ef mtF;cases G[i]? with
  | none=>rfl
  | some o=>
   cases o with
   | lst xs=>
    dsimp only;by_cases hj:j < xs.length
    ·rw [if_neg (by lia),List.getElem?_eq_getElem hj]
    ·rw [if_pos (by lia),List.getElem?_eq_none (by lia)]
   | _=>rfl
 | n + 1,j=>by
  funext S G;unfold forM Ef;rw [ZIq n (j + 1)];unfold mtF;cases G[i]? with
  | none=>rfl
  | some o=>
   cases o with
   | lst xs=>
    dsimp only
    cases xs[j]? <;> rfl
   | _=>rfl
section
variable {X:Cx} {E:XK} {tg iter:Expr} {pos:Pos}
theorem ZRh {it:DI} {b:DS} (h:lS K E (Dv it g b) W σ H):tFor (lI K E it) (lG K E g) (lS K E b) W σ H:=by
 obtain ⟨a,S,G,hk,rfl,s,r,h⟩:=h;refine ⟨a,S,G,hk,rfl,s,r,(ZKV h).imp ?_⟩;rintro J _ ⟨a1,d,G1,rfl,x1,s1,q1,_,h1⟩;have k1:a1.K=K:=x1.k.trans hk
 suffices fnc:∃n f,RepI a1 (.fn n f) J/\Cw E a1 (Ef f g b n 0 S G1) W by
  obtain ⟨n,f,q1,h1⟩:=fnc;have walk:∀b:Wd,Ext a1 b->∀G,Sim b G->∀i,(∀d,f i G=some (some d)->J.go i b.H/\∀x H',J.yld i b.H x H'->∃c:Wd,c.H=H'/\Ext b c/\Sim c G/\Rep c d x)/\(f i G=some none->J.stop i b.H):=q1;refine ⟨λi m σ H=>∃(c:Wd) (S:DSt) (G:DH),c.H=H/\Ext a1 c/\Sim c G/\RepS c S σ/\Cw E c (Ef f g b m i S G) W,⟨_,a1,S,G1,rfl,Ext.refl _,s1,r.mono x1,h1⟩,?_⟩;rintro i m σ2 _ ⟨c,S2,G2,rfl,x2,s2,r2,h2⟩
  cases m with
  | zero=>
   unfold Ef at h2;split at h2
   ·rename_i hf;exact .inl ⟨(walk c x2 G2 s2 i).2 hf,h2 c σ2 (Ext.refl c) s2 r2⟩
   ·exact h2.elim
  | succ m=>
   unfold Ef at h2;split at h2
   ·rename_i d hf;obtain ⟨go,yl⟩:=(walk c x2 G2 s2 i).1 d hf;refine .inr ⟨go,λσ' H'=>∃(c:Wd) (S:DSt) (G:DH),c.H=H'/\Ext a1 c/\Sim c G/\RepS c S σ'/\Cw E c (Ef f g b m (i + 1) S G) W,λσ' H' z=>⟨m,Nat.lt_succ_self _,z⟩,λw H' y=> ?_⟩;obtain ⟨cc,rfl,xx,ss,rd⟩:=yl w H' y;refine ⟨cc,S2,G2,d,xx.k.trans (x2.k.trans k1),rfl,ss,r2.mono xx,rd,(ZGS (Cw.mono xx h2)).imp ?_⟩;rintro σ3 _ ⟨c3,S3,G3,rfl,x3,s3,r3,_,h3⟩
    have fin:=ZG3 h3;refine ⟨c3,S3,G3,x3.k.trans (xx.k.trans (x2.k.trans k1)),rfl,s3,r3,?_⟩
    revert fin
    cases b S3 G3 with
    | nx S4 G4=>
      intro fin c4 σ4 x4 s4 q4;obtain ⟨c5,S5,G5,hh,x5,s5,r5,h5⟩:=fin c4 σ4 x4 s4 q4;exact ⟨c5,S5,G5,hh,x2.trans (xx.trans (x3.trans x5)),s5,r5,h5⟩
    | ct S4 G4=>
      intro fin c4 σ4 x4 s4 q4;obtain ⟨c5,S5,G5,hh,x5,s5,r5,h5⟩:=fin c4 σ4 x4 s4 q4;exact ⟨c5,S5,G5,hh,x2.trans (xx.trans (x3.trans x5)),s5,r5,h5⟩
    | bk S4 G4=>exact λfin=>fin
    | rt S4 G4=>exact λfin=>fin
    | err S4 G4=>exact λfin=>fin
    | bad=>exact λfin=>fin
   ·rename_i hf;exact .inl ⟨(walk c x2 G2 s2 i).2 hf,h2 c σ2 (Ext.refl c) s2 r2⟩
   ·exact h2.elim
 cases d with
 | pure xs=>
  have h1':Cw E a1 (Bg g b (xs.drop 0) S G1) W:=h1;rw [ZJB xs.length 0 (by lia)] at h1';exact ⟨_,_,ZH4 q1,h1'⟩
 | mt k=>
  dsimp only at h1;split at h1
  ·rw [ZIq] at h1;exact ⟨_,_,ZJP q1,h1⟩
  ·exact h1.elim
 | fn n f=>exact ⟨n,f,q1,h1⟩
theorem Ed {body:List Stmt} {it:DI} {b:DS} (hp:PassesOwn (model X.prog X.w) X.A X.env X.xe) (hc:X.calm=true) (hi:QI X E tg iter it) (hg:QG X E tg g) (hb:QSs X E body b)
  (hs:∀x,foldedSetIterable iter X.env x=pure x:=by intro _;rfl):QS X E (.For tg iter body [] pos) (Dv it g b):=(ZNg hp hc hi hg hb hs).mono λ_ _ _ h=>ZRh h
theorem _root_.L2.PI.mono {t t':TI} (h:PI X tg iter t) (w:∀σ H Q,t' σ H Q->t σ H Q):PI X tg iter t':=λpins s σ H Q I q=>h pins s σ H Q I (w σ H Q q)
noncomputable def sgn (c:Nat):D:=.str ⟨#[c]⟩
noncomputable def signs (x:Str):List D:=x.cps.toList.map sgn
noncomputable def Its (x:Str):It:=⟨λi _=>i < x.cps.size,λi H v H'=>H'=H/\∃c,x.cps[i]? =some c/\v=.str ⟨#[c]⟩,λi _=>x.cps.size<=i⟩
theorem ZO8 (it:Addr) (x:Str) (t:Tok):Turn P w K tg (Its x) [it] it (λi h=>h.IsStrIter it "str_ascii_iterator" x t i) where
 mem:=by simp
 obj:=λi h st b hb=>by
  have e:b=it:=by simpa using hb
  subst e;obtain ⟨o,e,c,d⟩:=st;exact ⟨o,e,λv z=>by rw [d] at z;cases z⟩
 keep:=λi h h' st k=>let ⟨o,ho,r⟩:=st;⟨o,k it (by simp) o ho,r⟩
 item:=by
  intro X hP hw hK hc i pins s σ H E I hf st hg;subst hP hw hK;obtain ⟨f0,f1,f2,f3,f4,f5⟩:=hf it (by simp);have hi:i < x.cps.size:=hg;refine wpAny_pyNext_ascii_item st (c:=x.cps[i]) (by simp [hi]) λh' st' sb=> ?_
  have I1:Inv X pins σ H {s with heap:=h',toks:=s.toks + 1}:=I.turned (λb o hb e=>(sb.2 b hb).trans e) f0 f1 f3 f4 f5;obtain ⟨o,e,c,d⟩:=id st';exact ⟨_,rfl,Oe (s:={s with heap:=h',toks:=s.toks + 1}) e c d (by decide) ⟨.str ⟨#[x.cps[i]]⟩,H,I1,⟨_,rfl⟩,⟨rfl,_,by simp [hi],rfl⟩,st',λb hb=>(hf b hb).1⟩⟩
 done:=by intro X hP hw hK hc i pins s σ H E I hf st hg;subst hP hw hK;obtain ⟨f0,f1,f2,f3,f4,f5⟩:=hf it (by simp);have hi:x.cps.size<=i:=hg;exact wpAny_pyNext_ascii_end (I.ok.hd hc) st (by simp [hi]) λh' eb=>⟨rfl,I.turned (t':=s.toks) (λb o hb e=>eb b o hb e) f0 f1 f3 f4 f5⟩
 self:=λ_ _ _ _ _ st h=>wpAny_pyIter_striter_ascii st h
theorem ZPI (it:Addr) (x:Str) (t:Tok):Turn P w K tg (Its x) [it] it (λi h=>h.IsStrIter it "str_iterator" x t i) where
 mem:=by simp
 obj:=λi h st b hb=>by
  have e:b=it:=by simpa using hb
  subst e;obtain ⟨o,e,c,d⟩:=st;exact ⟨o,e,λv z=>by rw [d] at z;cases z⟩
 keep:=λi h h' st k=>let ⟨o,ho,r⟩:=st;⟨o,k it (by simp) o ho,r⟩
 item:=by
  intro X hP hw hK hc i pins s σ H E I hf st hg;subst hP hw hK;obtain ⟨f0,f1,f2,f3,f4,f5⟩:=hf it (by simp);have hi:i < x.cps.size:=hg;refine wpAny_pyNext_wide_item st (c:=x.cps[i]) (by simp [hi]) λh' st' sb=> ?_
  have I1:Inv X pins σ H {s with heap:=h',toks:=s.toks + 1}:=I.turned (λb o hb e=>(sb.2 b hb).trans e) f0 f1 f3 f4 f5;obtain ⟨o,e,c,d⟩:=id st';exact ⟨_,rfl,Oe (s:={s with heap:=h',toks:=s.toks + 1}) e c d (by decide) ⟨.str ⟨#[x.cps[i]]⟩,H,I1,⟨_,rfl⟩,⟨rfl,_,by simp [hi],rfl⟩,st',λb hb=>(hf b hb).1⟩⟩
 done:=by intro X hP hw hK hc i pins s σ H E I hf st hg;subst hP hw hK;obtain ⟨f0,f1,f2,f3,f4,f5⟩:=hf it (by simp);have hi:x.cps.size<=i:=hg;exact wpAny_pyNext_wide_end (I.ok.hd hc) st (by simp [hi]) λh' eb=>⟨rfl,I.turned (t':=s.toks) (λb o hb e=>eb b o hb e) f0 f1 f3 f4 f5⟩
 self:=λ_ _ _ _ _ st h=>wpAny_pyIter_striter_wide st h
noncomputable def iStr (tl:TE):TI:=λσ H R=>tl σ H λx H1=>∃z,x=.str z/\R (Its z) H1
theorem ZNz {l:Expr} {tl:TE} (hl:PE X l tl):PI X tg l (iStr tl):=by
 intro pins s σ H R I h;refine thn (hl pins s σ H _ I h) λv s1 ⟨x,H1,I1,r1,q1⟩=> ?_
 obtain ⟨z,e,q⟩:=q1;subst e;obtain ⟨t,rfl⟩:=r1;have fp:∀b∈ [s1.heap.objs.size],FpOk X pins H1 b:=λb hb=>by
  have e:b=s1.heap.objs.size:=by simpa using hb
  subst e;exact I1.Ks (Nat.le_refl _) (I1.hok.fresh (Nat.le_refl _))
 cases ha:z.cps.all (· < 128)
 ·refine wpAny_pyIter_wide ha ?_;exact ⟨s1.heap.objs.size,[s1.heap.objs.size],_,_,H1,rfl,I1.kept (t':=s1.toks) λb o e=>Heap.get?_push_of_some _ e,ZPI _ z t,⟨_,Heap.get?_push_size _ rfl,rfl,rfl⟩,fp,q⟩
 ·refine wpAny_pyIter_ascii ha ?_;exact ⟨s1.heap.objs.size,[s1.heap.objs.size],_,_,H1,rfl,I1.kept (t':=s1.toks) λb o e=>Heap.get?_push_of_some _ e,ZO8 _ z t,⟨_,Heap.get?_push_size _ rfl,rfl,rfl⟩,fp,q⟩
theorem Reps.signs (x:Str):Reps a (signs x) (x.cps.toList.map λc=>V.str ⟨#[c]⟩):=by
 unfold DL.signs
 induction x.cps.toList with
 | nil=>exact rfl
 | cons c r ih=>exact ⟨_,_,rfl,rfl,ih⟩
noncomputable def Hj:D->DH->R ItD
 | .tup xs,G=>.ok (.pure xs) G
 | .str x,G=>.ok (.pure (signs x)) G
 | .fl xs,G=>.ok (.pure xs) G
 | .ref i,G=>match G[i]? with
  | some (.lst _)=>.ok (.mt i) G
  | _=>.bad
 | _,_=>.bad
noncomputable def Ff (te:DE):DI:=λS G=>(te S G).bind Hj
theorem G9 (he:QE X E iter te):QI X E tg iter (Ff te):=by
 intro pins s σ H R I h;obtain ⟨a,S,G,hk,rfl,sm,r,h⟩:=h;cases ht:te S G with
 | bad=>
  have h':outI E a ((te S G).bind Hj) R:=h;rw [ht] at h';exact h'.elim
 | err e G1=>
  have h':outI E a ((te S G).bind Hj) R:=h;rw [ht] at h';refine ZCh (tg:=tg) he pins s σ a.H R I ⟨a,S,G,hk,rfl,sm,r,?_⟩;rw [ht];exact h'
 | ok d G1=>
  have h':outI E a ((te S G).bind Hj) R:=h;rw [ht] at h';cases d with
  | tup xs=>
   refine ZMX (tg:=tg) he pins s σ a.H R I ⟨a,S,G,hk,rfl,sm,r,?_⟩;rw [ht];rintro b v x sb ⟨p,vs,rfl,hq,rv⟩;have hq':SqT X.K b.H p vs:=by rw [<-hk,<-x.k];exact hq
   refine ⟨p,rfl,⟨vs,hq'⟩,h' b _ x sb ⟨vs,rv,λc y i=>⟨λv hv=>⟨⟨vs,v,?_,hv⟩,λw H' z=> ?_⟩,λhl=>⟨vs,?_,hl⟩⟩⟩⟩
   ·have:=y.sqT hq;rw [y.k,x.k,hk] at this;exact this
   ·have:=y.sqT hq;rw [y.k,x.k,hk] at this;exact ⟨Option.some.inj ((z.2 vs this).symm.trans hv),z.1⟩
   ·have:=y.sqT hq;rw [y.k,x.k,hk] at this;exact this
  | fl xs=>
   refine ZCh (tg:=tg) he pins s σ a.H R I ⟨a,S,G,hk,rfl,sm,r,?_⟩;rw [ht];rintro b v x sb ⟨p,vs,rfl,hq,rv⟩;have hq':SqL X.K b.H p vs:=by rw [<-hk,<-x.k];exact hq.sq
   refine ⟨p,rfl,⟨vs,hq'⟩,h' b _ x sb ⟨vs,rv,λc y i=>⟨λv hv=>⟨⟨vs,v,?_,hv⟩,λw H' z=> ?_⟩,λhl=>⟨vs,?_,hl⟩⟩⟩⟩
   ·have:=(y.fzL hq).sq;rw [y.k,x.k,hk] at this;exact this
   ·have:=(y.fzL hq).sq;rw [y.k,x.k,hk] at this;exact ⟨Option.some.inj ((z.2 vs this).symm.trans hv),z.1⟩
   ·have:=(y.fzL hq).sq;rw [y.k,x.k,hk] at this;exact this
  | ref k=>
   have h2:outI E a (Hj (.ref k) G1) R:=h';unfold Hj at h2;dsimp only at h2;split at h2
   ·rename_i xs hx;refine ZCh (tg:=tg) he pins s σ a.H R I ⟨a,S,G,hk,rfl,sm,r,?_⟩;rw [ht];rintro b v x sb ⟨hkn,rfl⟩;obtain ⟨vs,hx,_⟩:=sb.lst hx;refine ⟨b.m k,rfl,⟨vs,.of hx⟩,h2 b _ x sb ⟨hkn,λc y us hu i=> ?_⟩⟩;rw [y.m k hkn] at hu;exact ⟨λv hv=>⟨⟨us,v,.of hu,hv⟩,λw H' z=>⟨Option.some.inj ((z.2 us (.of hu)).symm.trans hv),z.1⟩⟩,λhl=>⟨us,.of hu,hl⟩⟩
   ·exact h2.elim
  | str z=>
   refine ZNz (tg:=tg) he pins s σ a.H R I ⟨a,S,G,hk,rfl,sm,r,?_⟩;rw [ht];intro b v x sb rv
   cases (show v=V.str z from rv)
   refine ⟨z,rfl,h' b _ x sb ⟨_,Reps.signs z,λc y i=>⟨λv hv=> ?_,λhl=> ?_⟩⟩⟩
   ·rw [List.getElem?_map,Option.map_eq_some_iff] at hv;obtain ⟨k,hk1,rfl⟩:=hv;have hk2:z.cps[i]? =some k:=by rw [<-Array.getElem?_toList];exact hk1
    refine ⟨(Array.getElem?_eq_some_iff.mp hk2).1,λw H' q=> ?_⟩;obtain ⟨e1,k',e2,e3⟩:=q;rw [hk2] at e2;cases e2;exact ⟨e3,e1⟩
   ·rw [List.length_map,Array.length_toList] at hl;exact hl
  | _=>exact h'.elim
end
noncomputable def Cg (lo:Int) (n:Nat):List D:=(List.range n).map λ(k:Nat)=>D.int (lo + (k:Int))
noncomputable def inR (j:Int):Prop:= -(2 ^ 62)<=j/\j < 2 ^ 62
noncomputable instance (j:Int):Decidable (inR j):=by unfold inR;infer_instance
noncomputable def rng1 (ds:List D) (G:DH):R ItD:=match ds with
 | [.int j]=>if inR j then .ok (.pure (Cg 0 j.toNat)) G else .bad
 | _=>.bad
noncomputable def Dh (f:List D->DH->R ItD) (ta:DA):DI:=λS G=>(ta S G).bind f
noncomputable def sWh (c:DB) (b:DS):Nat->DS
 | 0,_,_=>.bad
 | n + 1,S,G=>(c S G).toS λk G1=>if k=true then aft (b S G1) (sWh c b n) else .nx S G1
noncomputable def Bq (np nl:Nat) (b:DS):List D->DH->R D:=λds G=>if ds.length=np then tidy G (match b (ds.map some++List.replicate nl none) G with
 | .nx _ G'=>.ok .non G'
 | .rt d G'=>.ok d G'
 | .err x G'=>.err x G'
 | _=>.bad) else .bad
theorem outI.mono (x:Ext a b) {r:R ItD} {Q:It->Hp->Prop} (h:outI E a r Q):outI E b r Q:=by
 cases r with
 | ok d G=>exact λc v y s q=>h c v (x.trans y) s q
 | err e G=>exact XOk.mono (E:=E) (e:=e) (G:=G) x h
 | bad=>exact h
theorem ZBw {r:R (List D)} {f:List D->DH->R ItD} {Q:It->Hp->Prop} (h:outI E a (r.bind f) Q):
  Gk E a r (λvs H=>∃(b:Wd) (ds:List D) (G:DH),b.H=H/\Ext a b/\Sim b G/\Reps b ds vs/\r=.ok ds G/\outI E b (f ds G) Q):=by
 cases r with
 | ok d G=>exact λb v x s q=>⟨b,d,G,rfl,x,s,q,rfl,outI.mono x h⟩
 | err e G=>exact h
 | bad=>exact h
section
variable {X:Cx} {E:XK} {tg iter:Expr} {pos:Pos}
theorem ZSU (lo:Int) (n:Nat):RepI a (.pure (Cg lo n)) (Itr lo n):=by
 refine ⟨(List.range n).map λ(k:Nat)=>V.int (lo + (k:Int)),?_,λb x i=>⟨λv hv=> ?_,λhl=> ?_⟩⟩
 ·unfold Cg;generalize List.range n=l
  induction l with
  | nil=>exact rfl
  | cons k l ih=>exact ⟨_,_,rfl,rfl,ih⟩
 ·rw [List.getElem?_map] at hv;by_cases hi:i < n
  ·rw [List.getElem?_range hi] at hv;have hv':V.int (lo + (i:Int))=v:=by simpa using hv
   exact ⟨hi,λw H' y=>⟨y.2.trans hv',y.1⟩⟩
  ·rw [List.getElem?_eq_none (by simpa using hi)] at hv;cases hv
 ·show n<=i;simpa using hl
theorem Hz {ta:DA} {p pos:Pos} (hg:Gl X "range") (hm:X.mg "range"=none) (ha:QA X E [e] ta) (hs:starEach [e] X.env= [(false,eval e X.env)]:=by rfl):QI X E tg (.Call (.Name "range" p) [e] [] pos) (Dh rng1 ta):=
 (ZSf hg hm ha hs).mono λσ H Q h=>by
  obtain ⟨a,S,G,hk,rfl,s,r,h⟩:=h;refine ⟨a,S,G,hk,rfl,s,r,(ZBw h).imp ?_⟩;rintro vs _ ⟨b,ds,G1,rfl,x,s1,q,-,h1⟩;unfold rng1 at h1;split at h1
  ·rename_i j;split at h1
   ·rename_i hj;obtain ⟨v,r,e1,q1,q2⟩:=q
    cases (show v=V.int j from q1)
    cases (show r= [] from q2)
    exact ⟨j,e1,hj.1,hj.2,h1 b _ (Ext.refl b) s1 (ZSU 0 j.toNat)⟩
   ·exact h1.elim
  ·exact h1.elim
theorem ZJM (n:Nat) {c:Expr} {body:List Stmt} {tc:DB} {tb:DS} (hp:PassesOwn (model X.prog X.w) X.A X.env X.xe) (hc:QT X E c tc) (hb:QSs X E body tb):QS X E (.While c body [] pos) (sWh tc tb n):=(ZLW hp hc hb).mono λW σ H h=>by
 obtain ⟨a,S,G,hk,rfl,s,r,h⟩:=h;refine ⟨λm σ H=>∃(b:Wd) (S:DSt) (G:DH),b.H=H/\Ext a b/\Sim b G/\RepS b S σ/\Cw E b (sWh tc tb m S G) W,⟨n,a,S,G,rfl,Ext.refl a,s,r,h⟩,?_⟩;rintro m σ2 _ ⟨b,S2,G2,rfl,x2,s2,r2,h2⟩;cases m with
 | zero=>exact h2.elim
 | succ m=>
  refine ⟨b,S2,G2,x2.k.trans hk,rfl,s2,r2,(ZJs h2).imp ?_⟩;rintro k _ ⟨c3,G3,rfl,x3,s3,_,h3⟩;cases k with
  | false=>exact h3 c3 σ2 (Ext.refl c3) s3 (r2.mono x3)
  | true=>
   refine ⟨λσ' H'=>∃(b:Wd) (S:DSt) (G:DH),b.H=H'/\Ext a b/\Sim b G/\RepS b S σ'/\Cw E b (sWh tc tb m S G) W,λσ' H' z=>⟨m,Nat.lt_succ_self _,z⟩,c3,S2,G3,x3.k.trans (x2.k.trans hk),rfl,s3,r2.mono x3,?_⟩;have fin:=ZG3 h3
   revert fin
   cases tb S2 G3 with
   | nx S4 G4=>
    intro fin c4 σ4 x4 s4 q4;obtain ⟨c5,S5,G5,hh,x5,s5,r5,h5⟩:=fin c4 σ4 x4 s4 q4;exact ⟨c5,S5,G5,hh,x2.trans (x3.trans x5),s5,r5,h5⟩
   | ct S4 G4=>
    intro fin c4 σ4 x4 s4 q4;obtain ⟨c5,S5,G5,hh,x5,s5,r5,h5⟩:=fin c4 σ4 x4 s4 q4;exact ⟨c5,S5,G5,hh,x2.trans (x3.trans x5),s5,r5,h5⟩
   | bk S4 G4=>exact λfin=>fin
   | rt S4 G4=>exact λfin=>fin
   | err S4 G4=>exact λfin=>fin
   | bad=>exact λfin=>fin
end
theorem ZRE (r:Reps a ds vs) (n m:Nat) (h:n=m):RepS a (ds.map some++List.replicate n none) (vs.map some++List.replicate m none):=by
 subst h;refine ⟨by simp [r.length],λi d hd=> ?_⟩;by_cases hi:i < ds.length
 ·rw [List.getElem?_append_left (by simpa using hi),List.getElem?_map] at hd;cases e:ds[i]? with
  | none=>rw [e] at hd;cases hd
  | some d'=>
   rw [e] at hd;have hd':d'=d:=by simpa using hd
   subst hd';obtain ⟨v,ev,q⟩:=r.get e;exact ⟨v,by rw [List.getElem?_append_left (by rw [List.length_map,<-r.length];exact hi),List.getElem?_map,ev];rfl,q⟩
 ·rw [List.getElem?_append_right (by simpa using hi),List.getElem?_replicate] at hd
  split at hd <;> cases hd
theorem Bt {mg:Str->Option Value} {base:Heap} {qual:Str} {st:Stmt} {f:Addr} {fd:FuncData} {N ps:List Str} {b:DS} (F:Fun K x qual st f fd) (S:FnScope N ps (Av st))
  (hbody:∀(cdv:Value) (A:Around) (outer:List Env) (s:Shared) (H:Hp) (E:XK),Room k (A.deeper (envOfC qual (Av st) s.heap.objs.size f cdv))->QSs (Nq CX0 P w K mg base N qual (Av st) f cdv A outer s H E).nox E0 (Jy st) b):
  FnOk P w K mg base CX0 (k + 1) f fd ps (lF K (Bq ps.length (N.length - ps.length) b)):=by
 have hlen:∀vs H Q E,lF K (Bq ps.length (N.length - ps.length) b) vs H Q E->vs.length=ps.length:=λvs H Q E h=>by
  obtain ⟨a,G,ds,hk,rfl,sm,r,h⟩:=h;unfold Bq at h;split at h
  ·rename_i hl;rw [<-r.length];exact hl
  ·exact h.elim
 refine F.ok S hlen (λcdv A outer s H vs Q E hr h=> ?_);refine ⟨lS K E0 b,hbody cdv A outer s H E hr,?_⟩;have hl:=hlen vs H Q E h;obtain ⟨a,G,ds,hk,rfl,sm,r,h⟩:=h;unfold Bq at h;split at h
 ·have h2:=ZFx sm h;refine ⟨a,ds.map some++List.replicate (N.length - ps.length) none,G,hk,rfl,sm,ZRE r _ _ (by rw [hl]),?_⟩
  revert h2
  cases b (ds.map some++List.replicate (N.length - ps.length) none) G with
  | nx S1 G1=>exact λh2 c σ x s1 _=>h2 c .non x s1 rfl
  | rt d G1=>exact λh2=>h2
  | err e G1=>exact λh2=>h2
  | bk S1 G1=>exact λh2=>h2.elim
  | ct S1 G1=>exact λh2=>h2.elim
  | bad=>exact λh2=>h2
 ·exact h.elim
theorem Lj {x:V} (s:Sim a G) (r:Rep a d x) (h:Bs d G=some xs):∃p vs,x=.ref p/\(SqL a.K a.H p vs∨SqT a.K a.H p vs)/\Reps a xs vs:=by
 cases d with
 | tup ys=>
  have e:ys=xs:=Option.some.inj h;subst e;obtain ⟨p,vs,e,q,rr⟩:=r;exact ⟨p,vs,e,.inr q,rr⟩
 | fl ys=>
  have e:ys=xs:=Option.some.inj h;subst e;obtain ⟨p,vs,e,q,rr⟩:=r;exact ⟨p,vs,e,.inl q.sq,rr⟩
 | ref i=>
  unfold Bs at h;dsimp only at h;split at h
  ·rename_i ys hi;have e:ys=xs:=Option.some.inj h;subst e;obtain ⟨vs,e1,r1⟩:=s.lst hi;exact ⟨a.m i,vs,r.2,.inl (.of e1),r1⟩
  ·cases h
 | _=>cases h
noncomputable def Ai (d e:D) (G:DH):R D:=match e with
 | .int i=>match d with
  | .str z=>if z.length<=1000000 then (match atI z.cps.toList i with
    | some c=>.ok (.str ⟨#[c]⟩) G
    | none=>.bad) else .bad
  | d=>match Bs d G with
   | some xs=>match atI xs i with
    | some v=>.ok v G
    | none=>.bad
   | none=>.bad
 | _=>.bad
theorem ZGq {i:Int} (r:Reps a xs vs) (h:atI xs i=some d):∃v,atI vs i=some v/\Rep a d v:=by
 unfold atI at h ⊢;rw [<-r.length];cases e:ixN xs.length i with
 | none=>rw [e] at h;cases h
 | some j=>
  rw [e] at h
  obtain ⟨v,ev,q⟩:=r.get (show xs[j]? =some d from h)
  exact ⟨v,ev,q⟩
section
variable {X:Cx} {E:XK}
theorem _root_.L2.IxR.mono {r r':R2} (h:IxR X r) (w:∀x y H Q,r' x y H Q->r x y H Q):IxR X r':=λvalue slice pins s σ H x y v u Q I rx ry q hs=>h value slice pins s σ H x y v u Q I rx ry (w _ _ _ _ q) hs
theorem _root_.L2.CallR.mono {f:Value} {r r':List V->Hp->VK->Prop} (h:CallR X f r) (w:∀xs H Q,r' xs H Q->r xs H Q):CallR X f r':=λpins s σ H xs us Q I rs q=>h pins s σ H xs us Q I rs (w _ _ _ q)
theorem _root_.L2.MtM.mono {id:String} {r r':V->List V->Hp->VK->Prop} (h:MtM X id r) (w:∀x xs H Q,r' x xs H Q->r x xs H Q):MtM X id r':=λpins s σ H x xs v us Q I rx rs q=>h pins s σ H x xs v us Q I rx rs (w _ _ _ _ q)
theorem Ak:IxR X (lR2 X.K E Ai):=ZNn.mono λx y H Q h=>by
 obtain ⟨a,G,d,e,hk,rfl,s,rd,re,q⟩:=h;cases e with
 | int i=>
  have fin:∀{xs:List D},Bs d G=some xs->out E a (match atI xs i with | some v=>.ok v G | none=>.bad) Q->rIx X.K x y a.H Q:=λ{xs} hs q=>by
   obtain ⟨p,vs,e1,h1,r1⟩:=Lj s rd hs;rw [hk] at h1;split at q
   ·rename_i v hv;obtain ⟨u,hu,ru⟩:=ZGq r1 hv;have z:=q a u (Ext.refl a) s ru;rcases h1 with h1 | h1
    ·exact .inl ⟨p,vs,i,u,e1,re,h1,hu,z⟩
    ·exact .inr (.inl ⟨p,vs,i,u,e1,re,h1,hu,z⟩)
   ·exact q.elim
  have fin':out E a (match Bs d G with | some xs=>(match atI xs i with | some v=>.ok v G | none=>.bad) | none=>.bad) Q->rIx X.K x y a.H Q:=λq=>by
   cases hs:Bs d G with
   | none=>rw [hs] at q;exact q.elim
   | some xs=>rw [hs] at q;exact fin hs q
  cases d with
  | str z=>
   unfold Ai at q;dsimp only at q;split at q
   ·rename_i hl;split at q
    ·rename_i c hc;exact .inr (.inr ⟨z,i,c,rd,re,Nat.le_trans hl size6,hc,q a _ (Ext.refl a) s rfl⟩)
    ·exact q.elim
   ·exact q.elim
  | tup ys=>exact fin' q
  | fl ys=>exact fin' q
  | ref j=>exact fin' q
  | _=>exact fin' q
 | _=>exact q.elim
noncomputable def Du (ds:List D) (G:DH):R D:=match ds with
 | [.str z]=>if z.length<=1000000 then .ok (.int z.length) G else .bad
 | [d]=>match Bs d G with
  | some xs=>.ok (.int xs.length) G
  | none=>.bad
 | _=>.bad
theorem reps1 (r:Reps a [d] vs):∃v,vs= [v]/\Rep a d v:=by
 obtain ⟨v,r',e,q,z⟩:=r
 cases (show r'= [] from z)
 exact ⟨v,e,q⟩
theorem reps2 {d':D} (r:Reps a [d,d'] vs):∃v v',vs= [v,v']/\Rep a d v/\Rep a d' v':=by obtain ⟨v,r',e,q,z⟩:=r;obtain ⟨v',e',q'⟩:=reps1 z;subst e';exact ⟨v,v',e,q,q'⟩
theorem Ei:CallR X (.builtin "len") (lRn X.K E Du):=(ZRa.or ZQh).mono λvs H Q h=>by
 obtain ⟨a,G,ds,hk,rfl,s,r,q⟩:=h;unfold Du at q;split at q
 ·rename_i z;split at q
  ·rename_i hl;obtain ⟨v,rfl,rv⟩:=reps1 r
   cases (show v=V.str z from rv)
   exact .inr ⟨z,rfl,Nat.le_trans hl size6,q a _ (Ext.refl a) s rfl⟩
  ·exact q.elim
 ·rename_i d _;split at q
  ·rename_i xs hs;obtain ⟨v,rfl,rv⟩:=reps1 r;obtain ⟨p,us,rfl,h1,r1⟩:=Lj s rv hs;rw [hk] at h1;exact .inl ⟨p,us,rfl,h1,q a _ (Ext.refl a) s (by rw [<-r1.length];exact rfl)⟩
  ·exact q.elim
 ·exact q.elim
noncomputable def Gp (ds:List D) (G:DH):R D:=match ds with
 | [d]=>match Bs d G with
  | some xs=>.ok (.tup xs) G
  | none=>.bad
 | _=>.bad
theorem Iu:CallR X (.type "tuple") (lRn X.K E Gp):=ZRJ.mono λvs H Q h=>by
 obtain ⟨a,G,ds,hk,rfl,s,r,q⟩:=h;unfold Gp at q;split at q
 ·rename_i d;split at q
  ·rename_i xs hs;obtain ⟨v,rfl,rv⟩:=reps1 r;obtain ⟨p,us,rfl,h1,r1⟩:=Lj s rv hs;refine ⟨p,us,rfl,?_⟩;rcases h1 with h1 | h1
   ·exact .inl ⟨by rw [<-hk];exact h1,λl hl=>ZFL s r1 q l hl⟩
   ·exact .inr ⟨by rw [<-hk];exact h1,q a _ (Ext.refl a) s ⟨p,us,rfl,h1,r1⟩⟩
  ·exact q.elim
 ·exact q.elim
noncomputable def ZAt (ds:List D) (G:DH):R D:=match ds with
 | [.str z]=>if z.length<=1000000 then .ok (.ref G.length) (G++ [.lst (signs z)]) else .bad
 | [d]=>match Bs d G with
  | some xs=>.ok (.ref G.length) (G++ [.lst xs])
  | none=>.bad
 | _=>.bad
theorem ZCz:∀{vs:List V} {us:List Value},vs.length=us.length->(∀(i:Nat) (v:V) (u:Value),vs[i]? =some v->us[i]? =some u->RelV v u)->Vals vs us
 | [],[],_,_=>.nil
 | [],_::_,h,_=>by cases h
 | _::_,[],h,_=>by cases h
 | v::vs,u::us,h,f=>.cons (f 0 v u rfl rfl) (ZCz (by simpa using h) λi v' u' h1 h2=>f (i + 1) v' u' (by simpa using h1) (by simpa using h2))
theorem ZLQ (hc:X.calm=true):CallR X (.type "list") (λxs H Q=>∃z:Str,xs= [.str z]/\z.length<=sizeLine/\∀l,H l=none->Q (.ref l) (upd H l (.lst (z.cps.toList.map λc=>V.str ⟨#[c]⟩)))):=by
 intro pins s σ H xs us Q I r h;obtain ⟨z,rfl,hz,q⟩:=h;obtain ⟨u,rfl,t,rfl⟩:=vals1 r;refine PySem.call_list_str (I.ok.hd hc) z t (λh' tk acc c hk hS hacc=> ?_) hz;have hn:H s.heap.objs.size=none:=I.hok.fresh (Nat.le_refl _);refine ⟨.ref s.heap.objs.size,upd H s.heap.objs.size (.lst (z.cps.toList.map λc=>V.str ⟨#[c]⟩)),I.laid (t':=tk) (h':=h') hk (Nat.le_refl _) ?_,rfl,q _ hn⟩;refine ⟨by rw [List.length_map,Array.length_toList];exact hz,acc.toList,c,ZCz ?_ λi v u h1 h2=> ?_,by simpa using hS⟩
 ·rw [List.length_map,Array.length_toList,Array.length_toList];exact hacc.1.symm
 ·rw [List.getElem?_map,Option.map_eq_some_iff] at h1;obtain ⟨k,e1,rfl⟩:=h1;obtain ⟨k',t',e2,rfl⟩:=hacc.2 i u (by rw [<-Array.getElem?_toList];exact h2);rw [Array.getElem?_toList,e2] at e1;cases e1;exact ⟨t',rfl⟩
theorem ZOb (hc:X.calm=true):CallR X (.type "list") (lRn X.K E ZAt):=(ZOf.or (ZLQ hc)).mono λvs H Q h=>by
 obtain ⟨a,G,ds,hk,rfl,s,r,q⟩:=h;unfold ZAt at q;split at q
 ·rename_i z;split at q
  ·rename_i hl;obtain ⟨v,rfl,rv⟩:=reps1 r
   cases (show v=V.str z from rv)
   exact .inr ⟨z,rfl,Nat.le_trans hl size6,λl hl=>La s (Reps.signs z) q l hl⟩
  ·exact q.elim
 ·rename_i d _;split at q
  ·rename_i xs hs;obtain ⟨v,rfl,rv⟩:=reps1 r;obtain ⟨p,us,rfl,h1,r1⟩:=Lj s rv hs;exact .inl ⟨p,us,rfl,by rw [<-hk];exact h1,λl hl=>La s r1 q l hl⟩
  ·exact q.elim
 ·exact q.elim
noncomputable def ZBd (ds:List D) (G:DH):R D:=match ds with
 | [.int i,.int j]=>.ok (.int (if j > i then j else i)) G
 | _=>.bad
noncomputable def Lf (ds:List D) (G:DH):R D:=match ds with
 | [.int i,.int j]=>.ok (.int (if j < i then j else i)) G
 | _=>.bad
theorem ZKb (hc:X.calm=true):CallR X (.builtin "max") (lRn X.K E ZBd):=(ZMR hc).mono λvs H Q h=>by
 obtain ⟨a,G,ds,hk,rfl,s,r,q⟩:=h;unfold ZBd at q;split at q
 ·obtain ⟨v,v',rfl,h1,h2⟩:=reps2 r
  cases (show v=V.int _ from h1)
  cases (show v'=V.int _ from h2)
  exact ⟨_,_,rfl,q a _ (Ext.refl a) s rfl⟩
 ·exact q.elim
theorem Us (hc:X.calm=true):CallR X (.builtin "min") (lRn X.K E Lf):=(ZKU hc).mono λvs H Q h=>by
 obtain ⟨a,G,ds,hk,rfl,s,r,q⟩:=h;unfold Lf at q;split at q
 ·obtain ⟨v,v',rfl,h1,h2⟩:=reps2 r
  cases (show v=V.int _ from h1)
  cases (show v'=V.int _ from h2)
  exact ⟨_,_,rfl,q a _ (Ext.refl a) s rfl⟩
 ·exact q.elim
noncomputable def U7 (ds:List D) (G:DH):R D:=match ds with
 | [.int i]=>.ok (.int i) G
 | [.bl k]=>.ok (.int (if k then 1 else 0)) G
 | _=>.bad
theorem ZJi:CallR X (.type "int") (lRn X.K E U7):=ZOU.mono λvs H Q h=>by
 obtain ⟨a,G,ds,hk,rfl,s,r,q⟩:=h;unfold U7 at q;split at q
 ·obtain ⟨v,rfl,h1⟩:=reps1 r
  cases (show v=V.int _ from h1)
  exact .inl ⟨_,rfl,q a _ (Ext.refl a) s rfl⟩
 ·obtain ⟨v,rfl,h1⟩:=reps1 r
  cases (show v=V.bl _ from h1)
  exact .inr ⟨_,rfl,q a _ (Ext.refl a) s rfl⟩
 ·exact q.elim
noncomputable def Fq (o:D) (ds:List D) (G:DH):R D:=match o,ds with
 | .ref i,[d]=>match G[i]? with
  | some (.lst xs)=>if xs.length < 1000000 then .ok .non (G.set i (.lst (xs++ [d]))) else .bad
  | _=>.bad
 | _,_=>.bad
noncomputable def lRm (K:PySem.W.Frag) (E:XK) (f:D->List D->DH->R D):V->List V->Hp->VK->Prop:=λx xs H Q=>∃(a:Wd) (G:DH) (d:D) (ds:List D),a.K=K/\a.H=H/\Sim a G/\Rep a d x/\Reps a ds xs/\out E a (f d ds G) Q
theorem Sim.isList (s:Sim a G) (h:G[i]? =some (.lst xs)):∃vs,SqL a.K a.H (a.m i) vs:=let ⟨vs,e,_⟩:=s.lst h;⟨vs,.of e⟩
theorem Hg:MtM X "list.append" (lRm X.K E Fq):=ZNF.mono λx xs H Q h=>by
 obtain ⟨a,G,d,ds,hk,rfl,s,rd,r,q⟩:=h;unfold Fq at q;split at q
 ·rename_i i d;obtain ⟨v,rfl,rv⟩:=reps1 r;split at q
  ·rename_i ys hy;split at q
   ·rename_i hl;obtain ⟨vs,e1,r1⟩:=s.lst hy;obtain ⟨x3,s3⟩:=ZEB s rd.1 e1 (r1.append (Reps.cons rv Reps.nil));refine ⟨a.m i,vs,v,rd.2,rfl,e1,by rw [<-r1.length];exact Nat.lt_of_lt_of_le hl size6,?_⟩;exact q _ .non x3 s3 rfl
   ·exact q.elim
  ·exact q.elim
 ·exact q.elim
variable {o e:Expr} {es:List Expr} {to:DE} {t:DA} {name:Str} {apos cpos:Pos} {T id:String} {f:D->List D->DH->R D}
noncomputable def isL (d:D) (G:DH):Bool:=match d with
 | .ref i=>match G[i]? with
  | some (.lst _)=>true
  | _=>false
 | .fl _=>true
 | _=>false
noncomputable def Fv (f:D->List D->DH->R D) (o:DE) (t:DA):DE:=λS G=>(o S G).bind λx G1=>if isL x G1=true then (t S G1).bind λxs G2=>f x xs G2 else .bad
theorem ZQB {x:V} (s:Sim a G) (r:Rep a d x) (h:isL d G=true):tyV a.K "list" x a.H:=by
 cases d with
 | ref i=>
  unfold isL at h;dsimp only at h;split at h
  ·rename_i xs hx;cases r.2;exact .inl ⟨rfl,s.isList hx⟩
  ·cases h
 | fl xs=>
  obtain ⟨p,vs,rfl,q,_⟩:=r;exact .inl ⟨rfl,vs,q.sq⟩
 | _=>cases h
theorem Hb (slot:Slot "list" name id) (hty:typeOf (.builtin id)=pure (.type "method_descriptor")) (hm:MtM X id (lRm X.K E f)) (ho:QE X E o to) (ha:QA X E (e::es) t)
  (hbase:attributeBase o name X.env (eval o X.env)=eval o X.env:=by rfl)
  (hfew:((backTo cpos (starEach (e::es) X.env)).all (λx=> !x.1) && (backToKw cpos (keywordEach [] X.env)).all (λx=>x.1.isSome)
   && decide ((e::es).length + ([]:List Keyword).length + (if ([]:List Keyword).isEmpty then 0 else 1) < 30))=true:=by rfl)
  (hline:(apos.endLine == cpos.line)=true:=by rfl) (hs:starEach (e::es) X.env=(false,eval e X.env)::starEach es X.env:=by rfl) (hplain:(backTo cpos (starEach es X.env)).any (·.1)=false:=by rfl):
  QE X E (.Call (.Attribute o name apos) (e::es) [] cpos) (Fv f to t):=(ZKG PySem.F.plainAttrs_list slot hty hm ho ha hbase hfew hline hs hplain).mono λσ H Q h=>by
 obtain ⟨a,S,G,hk,rfl,s,r,h⟩:=h;refine ⟨a,S,G,hk,rfl,s,r,(Ge h).imp ?_⟩;rintro v _ ⟨b,d,G1,rfl,x,s1,q,-,h1⟩;split at h1
 ·rename_i hl;have ty:=ZQB s1 q hl;rw [x.k,hk] at ty;refine ⟨ty,b,S,G1,x.k.trans hk,rfl,s1,r.mono x,(Ny h1).imp ?_⟩;rintro vs _ ⟨c,ds,G2,rfl,y,s2,q2,-,h2⟩;exact ⟨c,G2,d,ds,y.k.trans (x.k.trans hk),rfl,s2,q.mono y,q2,h2⟩
 ·exact h1.elim
end
inductive Ty where | non | bl | int | str | tup | lst
noncomputable def tyD (G:DH):D->Option Ty
 | .non=>some .non
 | .bl _=>some .bl
 | .int _=>some .int
 | .str _=>some .str
 | .tup _=>some .tup
 | .fl _=>some .lst
 | .ref i=>match G[i]? with
  | some (.lst _)=>some .lst
  | _=>none
 | .ty _=>none
noncomputable def Ty.sub (t:Ty):String->Option Bool
 | "int"=>some (match t with | .int=>true | .bl=>true | _=>false)
 | "bool"=>some (match t with | .bl=>true | _=>false)
 | "str"=>some (match t with | .str=>true | _=>false)
 | "tuple"=>some (match t with | .tup=>true | _=>false)
 | "list"=>some (match t with | .lst=>true | _=>false)
 | _=>none
noncomputable def Ij (ds:List D) (G:DH):R D:=match ds with
 | [d,.ty T]=>match tyD G d with
  | some t=>match t.sub T with
   | some k=>.ok (.bl k) G
   | none=>.bad
  | none=>.bad
 | _=>.bad
section
variable {prog:Program} {w:World} {A:Around} {E:Value->Shared->Prop} {s:Shared}
theorem Np {x:Value} {Tx T:String} {Q:Value->Shared->Prop} (hx:s.TypeIs x Tx) (hty:typeOf (.type T)=pure (.type "type")) (hsub:isSubtype (.type Tx) (.type T)=pure true) (h:Q (.bool true) s):
  wpAny (model prog w) A (call (.builtin "isinstance") [x,.type T]) Q E s:=call_isinstance (isinstance_true hty hsub) ⟨hx,h⟩
end
theorem ty_int:typeOf (.type "int")=pure (.type "type"):=by with_unfolding_all rfl
theorem ty_bool:typeOf (.type "bool")=pure (.type "type"):=by with_unfolding_all rfl
theorem ty_str:typeOf (.type "str")=pure (.type "type"):=by with_unfolding_all rfl
theorem ty_tuple:typeOf (.type "tuple")=pure (.type "type"):=by with_unfolding_all rfl
theorem ty_list:typeOf (.type "list")=pure (.type "type"):=by with_unfolding_all rfl
theorem ZQ0:isSubtype (.type "NoneType") (.type "int")=pure false:=by with_unfolding_all rfl
theorem ZNs:isSubtype (.type "NoneType") (.type "bool")=pure false:=by with_unfolding_all rfl
theorem ZLJ:isSubtype (.type "NoneType") (.type "str")=pure false:=by with_unfolding_all rfl
theorem ZNJ:isSubtype (.type "NoneType") (.type "tuple")=pure false:=by with_unfolding_all rfl
theorem ZQ2:isSubtype (.type "NoneType") (.type "list")=pure false:=by with_unfolding_all rfl
theorem ZKT:isSubtype (.type "bool") (.type "int")=pure true:=by with_unfolding_all rfl
theorem ZMN:isSubtype (.type "bool") (.type "bool")=pure true:=by with_unfolding_all rfl
theorem ZQC:isSubtype (.type "bool") (.type "str")=pure false:=by with_unfolding_all rfl
theorem ZMK:isSubtype (.type "bool") (.type "tuple")=pure false:=by with_unfolding_all rfl
theorem ZKj:isSubtype (.type "bool") (.type "list")=pure false:=by with_unfolding_all rfl
theorem ZMH:isSubtype (.type "int") (.type "int")=pure true:=by with_unfolding_all rfl
theorem ZSb:isSubtype (.type "int") (.type "bool")=pure false:=by with_unfolding_all rfl
theorem ZL6:isSubtype (.type "int") (.type "str")=pure false:=by with_unfolding_all rfl
theorem ZOK:isSubtype (.type "int") (.type "tuple")=pure false:=by with_unfolding_all rfl
theorem ZRH:isSubtype (.type "int") (.type "list")=pure false:=by with_unfolding_all rfl
theorem ZM7:isSubtype (.type "str") (.type "int")=pure false:=by with_unfolding_all rfl
theorem ZNf:isSubtype (.type "str") (.type "bool")=pure false:=by with_unfolding_all rfl
theorem ZKk:isSubtype (.type "str") (.type "str")=pure true:=by with_unfolding_all rfl
theorem ZLl:isSubtype (.type "str") (.type "tuple")=pure false:=by with_unfolding_all rfl
theorem ZOM:isSubtype (.type "str") (.type "list")=pure false:=by with_unfolding_all rfl
theorem ZMw:isSubtype (.type "tuple") (.type "int")=pure false:=by with_unfolding_all rfl
theorem ZPB:isSubtype (.type "tuple") (.type "bool")=pure false:=by with_unfolding_all rfl
theorem ZNr:isSubtype (.type "tuple") (.type "str")=pure false:=by with_unfolding_all rfl
theorem ZQO:isSubtype (.type "tuple") (.type "tuple")=pure true:=by with_unfolding_all rfl
theorem ZOr:isSubtype (.type "tuple") (.type "list")=pure false:=by with_unfolding_all rfl
theorem ZGl:isSubtype (.type "list") (.type "int")=pure false:=by with_unfolding_all rfl
theorem ZII:isSubtype (.type "list") (.type "bool")=pure false:=by with_unfolding_all rfl
theorem ZIz:isSubtype (.type "list") (.type "str")=pure false:=by with_unfolding_all rfl
theorem ZGj:isSubtype (.type "list") (.type "tuple")=pure false:=by with_unfolding_all rfl
theorem ZH3:isSubtype (.type "list") (.type "list")=pure true:=by with_unfolding_all rfl
section
variable {X:Cx} {E:XK}
theorem ZAa:CallR X (.builtin "isinstance") (lRn X.K E Ij):=by
 intro pins s σ H vs us Q I rs h;obtain ⟨a,G,ds,hk,rfl,sm,r,q⟩:=h;unfold Ij at q;split at q
 ·rename_i d T;obtain ⟨v,v',rfl,h1,h2⟩:=reps2 r
  cases (show v'=V.ty T from h2)
  obtain ⟨u,u',rfl,ru,ru'⟩:∃u u',us= [u,u']/\RelV v u/\RelV (.ty T) u':=by
   cases rs with
   | cons p q=>cases q with
    | cons p' q'=>cases q';exact ⟨_,_,rfl,p,p'⟩
  cases (show u'=Value.type T from ru')
  split at q
  ·rename_i t ht;split at q
   ·rename_i k hk';have fin:∀{n:Nat},EP X pins σ Q (.bool k) {s with toks:=n}:=λ{n}=>⟨.bl k,a.H,I.tok _,rfl,q a _ (Ext.refl a) sm rfl⟩
    have fin0:EP X pins σ Q (.bool k) s:=⟨.bl k,a.H,I,rfl,q a _ (Ext.refl a) sm rfl⟩;unfold Ty.sub at hk';split at hk'
    ·cases d with
     | non=>
      cases ht;cases hk'
      cases (show v=_ from h1)
      cases ru;exact call_isinstance (isinstance_false_none (by decide) ty_int ZQ0) fin
     | bl b=>
      cases ht;cases hk'
      cases (show v=_ from h1)
      cases ru;exact Np (Tx:="bool") rfl ty_int ZKT fin0
     | int b=>
      cases ht;cases hk'
      cases (show v=_ from h1)
      obtain ⟨tk,rfl⟩:=ru;exact Np (Tx:="int") (typeIs_int s _ _) ty_int ZMH fin0
     | str b=>
      cases ht;cases hk'
      cases (show v=_ from h1)
      obtain ⟨tk,rfl⟩:=ru;exact call_isinstance (isinstance_false_str (by decide) ty_int ZM7) fin
     | tup b=>
      cases ht;cases hk';obtain ⟨p,ws,rfl,hq,_⟩:=h1;cases ru;rw [hk] at hq;obtain ⟨its,_,pl,_⟩:=I.tuple hq;exact call_isinstance (isinstance_false_tuple (by decide) ty_int ZMw) ⟨(let ⟨o,e,c,_⟩:=pl;⟨o,e,c⟩),fin⟩
     | fl b=>
      cases ht;cases hk';obtain ⟨p,ws,rfl,hq,_⟩:=h1;cases ru;have hq:=hq.sq;rw [hk] at hq;obtain ⟨its,_,pl,_⟩:=I.list hq;exact call_isinstance (isinstance_false_list (by decide) ty_int ZGl) ⟨(let ⟨o,e,c,_⟩:=pl.isList;⟨o,e,c⟩),fin⟩
     | ref b=>
      unfold tyD at ht;dsimp only at ht;split at ht
      ·rename_i xs hx;cases ht;cases hk';obtain ⟨ws,e1,_⟩:=sm.lst hx;cases h1.2;cases ru;obtain ⟨its,_,pl,_⟩:=I.list (.of e1);exact call_isinstance (isinstance_false_list (by decide) ty_int ZGl) ⟨(let ⟨o,e,c,_⟩:=pl.isList;⟨o,e,c⟩),fin⟩
      ·cases ht
     | ty n=>cases ht
    ·cases d with
     | non=>
      cases ht;cases hk'
      cases (show v=_ from h1)
      cases ru;exact call_isinstance (isinstance_false_none (by decide) ty_bool ZNs) fin
     | bl b=>
      cases ht;cases hk'
      cases (show v=_ from h1)
      cases ru;exact Np (Tx:="bool") rfl ty_bool ZMN fin0
     | int b=>
      cases ht;cases hk'
      cases (show v=_ from h1)
      obtain ⟨tk,rfl⟩:=ru;exact call_isinstance (isinstance_false_int (by decide) ty_bool ZSb) fin
     | str b=>
      cases ht;cases hk'
      cases (show v=_ from h1)
      obtain ⟨tk,rfl⟩:=ru;exact call_isinstance (isinstance_false_str (by decide) ty_bool ZNf) fin
     | tup b=>
      cases ht;cases hk';obtain ⟨p,ws,rfl,hq,_⟩:=h1;cases ru;rw [hk] at hq;obtain ⟨its,_,pl,_⟩:=I.tuple hq;exact call_isinstance (isinstance_false_tuple (by decide) ty_bool ZPB) ⟨(let ⟨o,e,c,_⟩:=pl;⟨o,e,c⟩),fin⟩
     | fl b=>
      cases ht;cases hk';obtain ⟨p,ws,rfl,hq,_⟩:=h1;cases ru;have hq:=hq.sq;rw [hk] at hq;obtain ⟨its,_,pl,_⟩:=I.list hq;exact call_isinstance (isinstance_false_list (by decide) ty_bool ZII) ⟨(let ⟨o,e,c,_⟩:=pl.isList;⟨o,e,c⟩),fin⟩
     | ref b=>
      unfold tyD at ht;dsimp only at ht;split at ht
      ·rename_i xs hx;cases ht;cases hk';obtain ⟨ws,e1,_⟩:=sm.lst hx;cases h1.2;cases ru;obtain ⟨its,_,pl,_⟩:=I.list (.of e1);exact call_isinstance (isinstance_false_list (by decide) ty_bool ZII) ⟨(let ⟨o,e,c,_⟩:=pl.isList;⟨o,e,c⟩),fin⟩
      ·cases ht
     | ty n=>cases ht
    ·cases d with
     | non=>
      cases ht;cases hk'
      cases (show v=_ from h1)
      cases ru;exact call_isinstance (isinstance_false_none (by decide) ty_str ZLJ) fin
     | bl b=>
      cases ht;cases hk'
      cases (show v=_ from h1)
      cases ru;exact call_isinstance (isinstance_false_bool (by decide) ty_str ZQC) fin
     | int b=>
      cases ht;cases hk'
      cases (show v=_ from h1)
      obtain ⟨tk,rfl⟩:=ru;exact call_isinstance (isinstance_false_int (by decide) ty_str ZL6) fin
     | str b=>
      cases ht;cases hk'
      cases (show v=_ from h1)
      obtain ⟨tk,rfl⟩:=ru;exact Np (Tx:="str") (typeIs_str s _ _) ty_str ZKk fin0
     | tup b=>
      cases ht;cases hk';obtain ⟨p,ws,rfl,hq,_⟩:=h1;cases ru;rw [hk] at hq;obtain ⟨its,_,pl,_⟩:=I.tuple hq;exact call_isinstance (isinstance_false_tuple (by decide) ty_str ZNr) ⟨(let ⟨o,e,c,_⟩:=pl;⟨o,e,c⟩),fin⟩
     | fl b=>
      cases ht;cases hk';obtain ⟨p,ws,rfl,hq,_⟩:=h1;cases ru;have hq:=hq.sq;rw [hk] at hq;obtain ⟨its,_,pl,_⟩:=I.list hq;exact call_isinstance (isinstance_false_list (by decide) ty_str ZIz) ⟨(let ⟨o,e,c,_⟩:=pl.isList;⟨o,e,c⟩),fin⟩
     | ref b=>
      unfold tyD at ht;dsimp only at ht;split at ht
      ·rename_i xs hx;cases ht;cases hk';obtain ⟨ws,e1,_⟩:=sm.lst hx;cases h1.2;cases ru;obtain ⟨its,_,pl,_⟩:=I.list (.of e1);exact call_isinstance (isinstance_false_list (by decide) ty_str ZIz) ⟨(let ⟨o,e,c,_⟩:=pl.isList;⟨o,e,c⟩),fin⟩
      ·cases ht
     | ty n=>cases ht
    ·cases d with
     | non=>
      cases ht;cases hk'
      cases (show v=_ from h1)
      cases ru;exact call_isinstance (isinstance_false_none (by decide) ty_tuple ZNJ) fin
     | bl b=>
      cases ht;cases hk'
      cases (show v=_ from h1)
      cases ru;exact call_isinstance (isinstance_false_bool (by decide) ty_tuple ZMK) fin
     | int b=>
      cases ht;cases hk'
      cases (show v=_ from h1)
      obtain ⟨tk,rfl⟩:=ru;exact call_isinstance (isinstance_false_int (by decide) ty_tuple ZOK) fin
     | str b=>
      cases ht;cases hk'
      cases (show v=_ from h1)
      obtain ⟨tk,rfl⟩:=ru;exact call_isinstance (isinstance_false_str (by decide) ty_tuple ZLl) fin
     | tup b=>
      cases ht;cases hk';obtain ⟨p,ws,rfl,hq,_⟩:=h1;cases ru;rw [hk] at hq;obtain ⟨its,_,pl,_⟩:=I.tuple hq;exact Np (Tx:="tuple") pl.typeIs ty_tuple ZQO fin0
     | fl b=>
      cases ht;cases hk';obtain ⟨p,ws,rfl,hq,_⟩:=h1;cases ru;have hq:=hq.sq;rw [hk] at hq;obtain ⟨its,_,pl,_⟩:=I.list hq;exact call_isinstance (isinstance_false_list (by decide) ty_tuple ZGj) ⟨(let ⟨o,e,c,_⟩:=pl.isList;⟨o,e,c⟩),fin⟩
     | ref b=>
      unfold tyD at ht;dsimp only at ht;split at ht
      ·rename_i xs hx;cases ht;cases hk';obtain ⟨ws,e1,_⟩:=sm.lst hx;cases h1.2;cases ru;obtain ⟨its,_,pl,_⟩:=I.list (.of e1);exact call_isinstance (isinstance_false_list (by decide) ty_tuple ZGj) ⟨(let ⟨o,e,c,_⟩:=pl.isList;⟨o,e,c⟩),fin⟩
      ·cases ht
     | ty n=>cases ht
    ·cases d with
     | non=>
      cases ht;cases hk'
      cases (show v=_ from h1)
      cases ru;exact call_isinstance (isinstance_false_none (by decide) ty_list ZQ2) fin
     | bl b=>
      cases ht;cases hk'
      cases (show v=_ from h1)
      cases ru;exact call_isinstance (isinstance_false_bool (by decide) ty_list ZKj) fin
     | int b=>
      cases ht;cases hk'
      cases (show v=_ from h1)
      obtain ⟨tk,rfl⟩:=ru;exact call_isinstance (isinstance_false_int (by decide) ty_list ZRH) fin
     | str b=>
      cases ht;cases hk'
      cases (show v=_ from h1)
      obtain ⟨tk,rfl⟩:=ru;exact call_isinstance (isinstance_false_str (by decide) ty_list ZOM) fin
     | tup b=>
      cases ht;cases hk';obtain ⟨p,ws,rfl,hq,_⟩:=h1;cases ru;rw [hk] at hq;obtain ⟨its,_,pl,_⟩:=I.tuple hq;exact call_isinstance (isinstance_false_tuple (by decide) ty_list ZOr) ⟨(let ⟨o,e,c,_⟩:=pl;⟨o,e,c⟩),fin⟩
     | fl b=>
      cases ht;cases hk';obtain ⟨p,ws,rfl,hq,_⟩:=h1;cases ru;have hq:=hq.sq;rw [hk] at hq;obtain ⟨its,_,pl,_⟩:=I.list hq;exact Np (Tx:="list") pl.isList.typeIs ty_list ZH3 fin0
     | ref b=>
      unfold tyD at ht;dsimp only at ht;split at ht
      ·rename_i xs hx;cases ht;cases hk';obtain ⟨ws,e1,_⟩:=sm.lst hx;cases h1.2;cases ru;obtain ⟨its,_,pl,_⟩:=I.list (.of e1);exact Np (Tx:="list") pl.isList.typeIs ty_list ZH3 fin0
      ·cases ht
     | ty n=>cases ht
    ·cases hk'
   ·exact q.elim
  ·exact q.elim
 ·exact q.elim
end
noncomputable def Gj:List D->Option (List Int)
 | []=>some []
 | .int i::r=>(Gj r).map (i::·)
 | _=>none
noncomputable def Hm:List D->Option (List Bool)
 | []=>some []
 | .bl i::r=>(Hm r).map (i::·)
 | _=>none
@[simp] theorem ZEV (ns:List Int):Gj (ns.map D.int)=some ns:=by
 induction ns with
 | nil=>rfl
 | cons n ns ih=>simp [Gj,ih]
@[simp] theorem ZUA (ns:List Bool):Hm (ns.map D.bl)=some ns:=by
 induction ns with
 | nil=>rfl
 | cons n ns ih=>simp [Hm,ih]
theorem ZBC:∀{xs:List D} {ns:List Int},Gj xs=some ns->xs=ns.map D.int
 | [],ns,h=>by cases h;rfl
 | .int i::r,ns,h=>by simp only [Gj,Option.map_eq_some_iff] at h;obtain ⟨ms,h1,rfl⟩:=h;rw [List.map_cons,ZBC h1]
 | .non::r,ns,h=>by simp [Gj] at h
 | .bl _::r,ns,h=>by simp [Gj] at h
 | .str _::r,ns,h=>by simp [Gj] at h
 | .ty _::r,ns,h=>by simp [Gj] at h
 | .tup _::r,ns,h=>by simp [Gj] at h
 | .fl _::r,ns,h=>by simp [Gj] at h
 | .ref _::r,ns,h=>by simp [Gj] at h
theorem ZGd:∀{xs:List D} {ns:List Bool},Hm xs=some ns->xs=ns.map D.bl
 | [],ns,h=>by cases h;rfl
 | .bl i::r,ns,h=>by simp only [Hm,Option.map_eq_some_iff] at h;obtain ⟨ms,h1,rfl⟩:=h;rw [List.map_cons,ZGd h1]
 | .non::r,ns,h=>by simp [Hm] at h
 | .int _::r,ns,h=>by simp [Hm] at h
 | .str _::r,ns,h=>by simp [Hm] at h
 | .ty _::r,ns,h=>by simp [Hm] at h
 | .tup _::r,ns,h=>by simp [Hm] at h
 | .fl _::r,ns,h=>by simp [Hm] at h
 | .ref _::r,ns,h=>by simp [Hm] at h
noncomputable def fSum (ds:List D) (G:DH):R D:=match ds with
 | [d]=>match Bs d G with
  | some xs=>match Gj xs with
   | some ns=>.ok (.int ns.sum) G
   | none=>.bad
  | none=>.bad
 | _=>.bad
noncomputable def Sd (ds:List D) (G:DH):R D:=match ds with
 | [d]=>match Bs d G with
  | some xs=>match Hm xs with
   | some ns=>.ok (.bl (ns.all id)) G
   | none=>.bad
  | none=>.bad
 | _=>.bad
section
variable {X:Cx} {E:XK} {pins:List (Addr×Obj)} {σ:St} {s:Shared} {H:Hp}
theorem ZE6 (I:Inv X pins σ H s) (hc:X.calm=true) (h:SqL X.K H p vs∨SqT X.K H p vs) {E':Value->Shared->Prop} {Q:Value->Shared->Prop}
  (hQ:∀(it:Addr) (fp wr:List Addr) (its:List Value) (St:Nat->Heap->Prop) (s₂:Shared),Vals vs its->Walks X.prog X.w X.A.in1 it fp wr its.toArray.size (λi v=>its.toArray[i]? =some v) St->St 0 s₂.heap->(∀b∈fp,b < s₂.heap.objs.size)->
   (∀h' tk,(∀b o,b ∉ wr->s₂.heap.get? b=some o->h'.get? b=some o)->Inv X pins σ H {s₂ with heap:=h',toks:=tk})->Q (.ref it) s₂):
  wpAny (model X.prog X.w) X.A.in1 (pyIter (.ref p)) Q E' s:=by
 have hh:X.A.in1.handled=none:=I.ok.hd hc;rcases h with h | h
 ·obtain ⟨its,r,pl,hz⟩:=I.list h;refine wpAny_pyIter_list pl.isList ?_;have hp:p < s.heap.objs.size:=by obtain ⟨o,e,_⟩:=pl.isList;exact Heap.lt_size e
  refine hQ _ _ _ its _ _ r (Walks.list hh _ p (Nat.ne_of_lt hp) its.toArray) ⟨⟨_,Heap.get?_push_size _ rfl,rfl,rfl⟩,?_⟩ (λb hb=> ?_) λh' tk kk=> ?_
  ·obtain ⟨o,e,c⟩:=pl.isList;exact ⟨o,Heap.get?_push_of_some _ e,c⟩
  ·show b < (s.heap.push _).objs.size;rw [Heap.size_push];rcases List.mem_cons.mp hb with rfl | hb
   ·exact Nat.lt_succ_self _
   ·have e:b=p:=by simpa using hb
    subst e;exact Nat.lt_succ_of_lt hp
  ·refine I.kept λb o e=>kk b o (λhb=> ?_) (Heap.get?_push_of_some _ e)
   have e2:b=s.heap.objs.size:=by simpa using hb
   subst e2;exact absurd (Heap.lt_size e) (Nat.lt_irrefl _)
 ·obtain ⟨its,r,pl,hz⟩:=I.tuple h
  refine wpAny_pyIter_tuple (show s.heap.IsTuple p its.toArray from pl) ?_
  have hp:p < s.heap.objs.size:=by obtain ⟨o,e,_⟩:=pl;exact Heap.lt_size e
  refine hQ _ _ _ its _ _ r (Walks.tuple hh _ p (Nat.ne_of_lt hp) its.toArray) ⟨⟨_,Heap.get?_push_size _ rfl,rfl,rfl⟩,?_⟩ (λb hb=> ?_) λh' tk kk=> ?_
  ·obtain ⟨o,e,c⟩:=pl;exact ⟨o,Heap.get?_push_of_some _ e,c⟩
  ·show b < (s.heap.push _).objs.size;rw [Heap.size_push];rcases List.mem_cons.mp hb with rfl | hb
   ·exact Nat.lt_succ_self _
   ·have e:b=p:=by simpa using hb
    subst e;exact Nat.lt_succ_of_lt hp
  ·refine I.kept λb o e=>kk b o (λhb=> ?_) (Heap.get?_push_of_some _ e)
   have e2:b=s.heap.objs.size:=by simpa using hb
   subst e2;exact absurd (Heap.lt_size e) (Nat.lt_irrefl _)
theorem ZDG:∀{ns:List Int} {vs:List V},Reps a (ns.map D.int) vs->vs=ns.map V.int
 | [],vs,h=>h
 | n::ns,vs,h=>by
  obtain ⟨v,r,e,h1,h2⟩:=h
  cases (show v=V.int n from h1)
  rw [e,ZDG h2]
  rfl
theorem ZIK:∀{ns:List Bool} {vs:List V},Reps a (ns.map D.bl) vs->vs=ns.map V.bl
 | [],vs,h=>h
 | n::ns,vs,h=>by
  obtain ⟨v,r,e,h1,h2⟩:=h
  cases (show v=V.bl n from h1)
  rw [e,ZIK h2]
  rfl
theorem all_range (ns:List Bool):(List.range ns.length).all (λi=>ns.getD i true)=ns.all id:=by
 rw [Bool.eq_iff_iff,List.all_eq_true,List.all_eq_true];constructor
 ·intro h b hb;obtain ⟨i,hi,rfl⟩:=List.getElem_of_mem hb;simpa [hi] using h i (List.mem_range.mpr hi)
 ·intro h i hi;have hi':i < ns.length:=List.mem_range.mp hi;simpa [hi'] using h ns[i] (List.getElem_mem hi')
theorem ZKM (hc:X.calm=true):CallR X (.builtin "all") (lRn X.K E Sd):=by
 intro pins s σ H vs us Q I rs h;obtain ⟨a,G,ds,hk,rfl,sm,r,q⟩:=h;unfold Sd at q;split at q
 ·rename_i d;obtain ⟨v,rfl,rv⟩:=reps1 r;split at q
  ·rename_i xs hs;split at q
   ·rename_i ns hn;cases ZGd hn;obtain ⟨p,ws,rfl,h1,r1⟩:=Lj sm rv hs;cases ZIK r1;rw [hk] at h1;obtain ⟨u,rfl,ru⟩:=vals1 rs;cases ru;refine call_all_walk (ZE6 I hc h1 λit fp wr its St s₂ hv W st hfp fin=>⟨it,fp,wr,its.toArray.size,_,St,λi=>ns.getD i true,rfl,W,st,λi w s' Q' E' hw hQ'=> ?_,λh' tk kk=> ?_⟩)
    ·have hw':its[i]? =some w:=by simpa using hw
     have hl:i < (ns.map V.bl).length:=by rw [hv.length];exact (List.getElem?_eq_some_iff.mp hw').1
     have hl':i < ns.length:=by simpa using hl
     obtain ⟨u,hu,ru⟩:=hv.get (i:=i) (x:=V.bl ns[i]) (by simp [hl']);rw [hw'] at hu;cases hu;cases ru;refine wpAny_truthy_bool ?_;simpa [hl'] using hQ'
    ·refine ⟨.bl (ns.all id),a.H,fin h' tk kk,?_,q a _ (Ext.refl a) sm rfl⟩;have hl:its.toArray.size=ns.length:=by rw [List.size_toArray,<-hv.length];simp
     rw [hl,all_range]
     rfl
   ·exact q.elim
  ·exact q.elim
 ·exact q.elim
end
section
variable {X:Cx} {pins:List (Addr×Obj)} {σ:St} {H:Hp} {s:Shared}
theorem ZFH {a:Addr} {o:HO} (I:Inv X pins σ H s) (hn:H a=none) (hy:X.s₀.heap.objs.size<=a) (hL:a≠X.env.locals) (hc:∀x c,X.env.cells.lookup x=some c->c≠a) (hp:∀p∈X.pn++pins,p.1≠a)
  (new:ObjOk X.prog X.w (upd H a o) s.heap a o):Inv X pins σ (upd H a o) s:=by
 have ne:∀b u,H b=some u->b≠a:=λb u e z=>by rw [z,hn] at e;cases e
 refine ⟨I.ok,I.os,I.bare,⟨I.base.keep,I.base.slot,λb ob q n hx=> ?_,I.base.there,λb xs q=> ?_,λb ob u q=> ?_,λb ps q=> ?_⟩,I.loc,I.cell,?_,λx c e=> ?_,λp hp'=> ?_,λb u e=> ?_,I.len⟩
 ·rw [Az (Nat.ne_of_lt (Nat.lt_of_lt_of_le (Heap.lt_size q) hy))];exact I.base.free b ob q n hx
 ·have:=I.base.tups b xs q;rw [Az (ne _ _ this)];exact this
 ·have:=I.base.frzs b ob u q;rw [Az (ne _ _ this)];exact this
 ·obtain ⟨more,this⟩:=I.base.tbls b ps q;exact ⟨more,by rw [Az (ne _ _ this)];exact this⟩
 ·rw [Az (Ne.symm hL)];exact I.free
 ·rw [Az (hc x c e)];exact I.Ir x c e
 ·obtain ⟨e1,e2,e3⟩:=I.pin p hp';exact ⟨e1,by rw [Az (hp p hp')];exact e2,e3⟩
 ·by_cases hb:b=a
  ·subst hb;rw [Gg] at e;cases e;exact new
  ·rw [Az hb] at e;exact (I.hok b u e).stay (λ_ _ _ q=>q) (λc q=>by rw [Az (ne _ _ q)];exact q) λc xs q=>by rw [Az (ne _ _ q)];exact q
end
noncomputable def Fo (env:Env):List (Str×NameKind)->List (Str×Addr)->List (Str×Addr)
 | [],cs=>cs
 | (n,k)::r,cs=>if (k == NameKind.free)=true then Fo env r ((n,(env.cells.lookup n).getD 0)::cs) else Fo env r cs
theorem ZGE (h:∀y∈scope.names,y.2=.free->∃c,env.cells.lookup y.1=some c):closureFor scope env=pure (Fo env scope.names []):=by
 unfold closureFor;obtain ⟨kind,names,g1,g2⟩:=scope;have key:∀(names:List (Str×NameKind)) (cs:List (Str×Addr)),(∀y∈names,y.2=.free->∃c,env.cells.lookup y.1=some c)->
   (forIn names cs (λx r=>match x with
    | (name,kind)=>if (kind == NameKind.free)=true then (do let c<-cellOf env name;pure (ForInStep.yield ((name,c)::r))) else pure (ForInStep.yield r)):Sem (List (Str×Addr)))=pure (Fo env names cs):=by
  intro names
  induction names with
  | nil=>intro cs _;rfl
  | cons y r ih=>
   intro cs hy;obtain ⟨n,k⟩:=y;rw [List.forIn_cons];by_cases hk:(k == NameKind.free)=true
   ·obtain ⟨c,hc⟩:=hy (n,k) List.mem_cons_self (by simpa using hk)
    have e1:cellOf env n=pure c:=by unfold cellOf;rw [show env.cells.lookup n=some c from hc]
    have e2:Fo env ((n,k)::r) cs=Fo env r ((n,c)::cs):=by rw [Fo,if_pos hk,show env.cells.lookup n=some c from hc];rfl
    rw [e2,<-ih ((n,c)::cs) λy' hy'=>hy y' (List.mem_cons_of_mem _ hy')];simp only [hk,if_true,e1]
    rfl
   ·have e2:Fo env ((n,k)::r) cs=Fo env r cs:=by rw [Fo,if_neg hk]
    rw [e2,<-ih cs λy' hy'=>hy y' (List.mem_cons_of_mem _ hy')];simp only [hk]
    rfl
 have:=key names [] h;exact congrArg (λm:Sem (List (Str×Addr))=>m >>=λr=>pure r) this
theorem ZCa:∀{names:List (Str×NameKind)} {cs:List (Str×Addr)},(∀y∈names,y.2=.free->∃c,env.cells.lookup y.1=some c)->(∀p∈cs,env.cells.lookup p.1=some p.2)->∀p∈Fo env names cs,env.cells.lookup p.1=some p.2
 | [],cs,_,hc,p,hp=>hc p hp
 | (n,k)::r,cs,hn,hc,p,hp=>by
  rw [Fo] at hp;split at hp
  ·rename_i hk;obtain ⟨c,e⟩:=hn (n,k) List.mem_cons_self (by simpa using hk);refine ZCa (λy hy=>hn y (List.mem_cons_of_mem _ hy)) (λq hq=> ?_) p hp;rcases List.mem_cons.mp hq with rfl | hq
   ·rw [show env.cells.lookup n=some c from e];rfl
   ·exact hc q hq
  ·exact ZCa (λy hy=>hn y (List.mem_cons_of_mem _ hy)) hc p hp
theorem Wx:∀{names:List (Str×NameKind)} {cs:List (Str×Addr)},((x,.free)∈names∨∃c,(x,c)∈cs)->∃c,(x,c)∈Fo env names cs
 | [],cs,h=>by
  rcases h with h | h
  ·cases h
  ·exact h
 | (n,k)::r,cs,h=>by
  rw [Fo];split
  ·refine Wx ?_;rcases h with h | ⟨c,h⟩
   ·rcases List.mem_cons.mp h with e | h
    ·cases e;exact .inr ⟨_,List.mem_cons_self⟩
    ·exact .inl h
   ·exact .inr ⟨c,List.mem_cons_of_mem _ h⟩
  ·rename_i hk;refine Wx ?_;rcases h with h | h
   ·rcases List.mem_cons.mp h with e | h
    ·cases e;exact absurd rfl hk
    ·exact .inl h
   ·exact .inr h
theorem ZCT {c:Addr}:∀{l:List (Str×Addr)},(x,c)∈l->∃d,l.lookup x=some d
 | [],h=>by cases h
 | (y,d)::l,h=>by
  by_cases e:x=y
  ·subst e;exact ⟨d,by simp⟩
  ·rcases List.mem_cons.mp h with z | h
   ·cases z;exact absurd rfl e
   ·obtain ⟨d',q⟩:=ZCT h;exact ⟨d',by rw [List.lookup_cons,beq_eq_false_iff_ne.mpr e];exact q⟩
theorem ZHg (x:Str):(relabel scope env).names.lookup x=(scope.names.lookup x).map λk=>if (k == NameKind.free && env.scope.kind == .function && env.kindOf x == some .cell)=true then .cell else k:=by
 unfold relabel;generalize scope.names=l
 induction l with
 | nil=>rfl
 | cons y r ih=>
  obtain ⟨n,k⟩:=y;by_cases e:x=n
  ·subst e;simp only [List.map_cons]
   cases hc:(k == NameKind.free && env.scope.kind == ScopeKind.function && env.kindOf x == some NameKind.cell) <;>
    simp only [hc,if_true,List.lookup_cons,beq_self_eq_true,Option.map_some,Bool.false_eq_true,if_false]
  ·have hb:(x == n)=false:=beq_eq_false_iff_ne.mpr e;simp only [List.map_cons];split
   ·rw [List.lookup_cons,List.lookup_cons,hb];exact ih
   ·rw [List.lookup_cons,List.lookup_cons,hb];exact ih
noncomputable def blk (X:Cx) (N:List Str) (scope:Scope) (C:Addr) (s₀:Shared) (H₀:Hp) (ex:List Addr):Cx where
 prog:=X.prog
 w:=X.w
 K:=X.K
 mg:=X.mg
 base:=X.base
 A:=X.A
 N:=N
 s₀:=s₀
 H₀:=H₀
 env:=compEnvC scope (Fo X.env scope.names []) C X.env
 outer:=X.stack
 stack:=X.stack
 ex:=ex
 fn:=λ_=>false
 calm:=X.calm
 pn:= []
 xe:=λ_ _=>False
structure CompSc (X:Cx) (N:List Str) (scope:Scope) (nt:Nat) (caps:List Nat):Prop where
 kind:scope.kind=.function
 names:∀y∈scope.names,y.2=.local->scope.names.lookup y.1=some .local
 nocell:∀y∈scope.names,y.2≠ .cell
 free:∀y∈scope.names,y.2=.free->X.env.kindOf y.1=some .cell∨X.env.kindOf y.1=some .free
 nd:N.Nodup
 len:N.length=nt + caps.length
 cap:∀(k j:Nat),caps[k]? =some j->∃x,X.N[j]? =some x/\N[nt + k]? =some x/\scope.names.lookup x=some .free
section
variable {X:Cx} {pins:List (Addr×Obj)} {σ:St} {H:Hp} {s:Shared} {N:List Str} {scope:Scope} {nt:Nat} {caps:List Nat}
theorem CompSc.cells (c:CompSc X N scope nt caps) (ok:X.Ok):∀y∈scope.names,y.2=.free->∃c,X.env.cells.lookup y.1=some c:=λy hy hk=>ok.has y.1 (c.free y hy hk)
theorem CompSc.cl (c:CompSc X N scope nt caps) (ok:X.Ok) {d:Addr} (h:(Fo X.env scope.names []).lookup x=some d):X.env.cells.lookup x=some d:=
 ZCa (c.cells ok) (λp hp=>by cases hp) (x,d) (PySem.mem_of_lookup h)
theorem ZRV (c:CompSc X N scope nt caps) (I:Inv X pins σ H s) {fp:List Addr} (hf:∀b∈fp,FpOk X pins H b) {C:Addr} (hC:s.heap.objs.size<=C) (hCf:C ∉ fp):(blk X N scope C s H fp).Ok where
 mod:=I.ok.mod
 kind:=c.kind
 glob:=I.ok.glob
 blt:=I.ok.blt
 above:=hC
 inj:=λx y d h1 h2=>I.ok.inj x y d (c.cl I.ok h1) (c.cl I.ok h2)
 has:=λx h=>by
  have h':(relabel scope X.env).names.lookup x=some .cell∨(relabel scope X.env).names.lookup x=some .free:=h;rw [ZHg] at h';have hfree:scope.names.lookup x=some .free:=by
   cases e:scope.names.lookup x with
   | none=>rw [e] at h';rcases h' with h' | h' <;> cases h'
   | some k=>
    rw [e] at h';cases k with
    | free=>rfl
    | cell=>exact absurd rfl (c.nocell _ (PySem.mem_of_lookup e))
    | _=>rcases h' with h' | h' <;> (simp at h')
  obtain ⟨d,hd⟩:=Wx (env:=X.env) (x:=x) (names:=scope.names) (cs:= []) (.inl (PySem.mem_of_lookup hfree));exact ZCT hd
 cab:=λx d h=>by cases h
 hd:=I.ok.hd
 frames:=I.ok.frames
 stk:=.inl rfl
 exf:=λb hb=>⟨λz=>hCf (by rw [<-show b=C from z];exact hb),λx d h=>(hf b hb).2.2.2.2.1 x d (c.cl I.ok h)⟩
 bs:=I.bs
 bsz:=Nat.le_trans I.ok.bsz I.sz
 noex:=λb o e hb=>by
  rcases (hf b hb).2.2.2.1 with h | h
  ·exact I.ok.noex b o e h
  ·exact absurd (Nat.lt_of_lt_of_le (Heap.lt_size (I.ok.bs b o e).1) h) (Nat.lt_irrefl _)
 exfs:=λb hb hz=>by
  rcases List.mem_cons.mp (I.Wb b hz) with z | z
  ·exact (hf b hb).2.1 z
  ·exact (hf b hb).2.2.1 z
 funs:=I.stack
 frf:=I.ZG8
end
noncomputable def Eb (g:DG) (c:DB) (te:DE) (S:DSt):List D->DH->R (List D)
 | [],G=>.ok [] G
 | x::xs,G=>(g x S G).bind λS1 G1=>(c S1 G1).bind λk G2=>
   if k=true then (te S1 G2).bind λd G3=>(Eb g c te S xs G3).bind λds G4=>.ok (d::ds) G4 else Eb g c te S xs G2
noncomputable def H8 (i:Nat) (g:DG) (c:DB) (te:DE) (S:DSt):Nat->Nat->DH->R (List D)
 | 0,j,G=>match G[i]? with
  | some (.lst xs)=>if xs.length<=j then .ok [] G else .bad
  | _=>.bad
 | n + 1,j,G=>match G[i]? with
  | some (.lst xs)=>match xs[j]? with
   | some x=>(g x S G).bind λS1 G1=>(c S1 G1).bind λk G2=>
     if k=true then (te S1 G2).bind λd G3=>(H8 i g c te S n (j + 1) G3).bind λds G4=>.ok (d::ds) G4 else H8 i g c te S n (j + 1) G2
   | none=>.ok [] G
  | _=>.bad
noncomputable def Dz (f:Nat->DH->Option (Option D)) (g:DG) (c:DB) (te:DE) (S:DSt):Nat->Nat->DH->R (List D)
 | 0,j,G=>match f j G with
  | some none=>.ok [] G
  | _=>.bad
 | n + 1,j,G=>match f j G with
  | some (some x)=>(g x S G).bind λS1 G1=>(c S1 G1).bind λk G2=>
     if k=true then (te S1 G2).bind λd G3=>(Dz f g c te S n (j + 1) G3).bind λds G4=>.ok (d::ds) G4 else Dz f g c te S n (j + 1) G2
  | some none=>.ok [] G
  | none=>.bad
noncomputable def Bf (nt:Nat) (caps:List Nat) (S:DSt):DSt:=List.replicate nt none++caps.map λj=>(S[j]?).join
noncomputable def Er (it:DI) (nt:Nat) (caps:List Nat) (g:DG) (c:DB) (te:DE):DE:=λS G=>(it S G).bind λJ G1=>(match J with
 | .pure xs=>Eb g c te (Bf nt caps S) xs G1
 | .mt i=>match G1[i]? with
  | some (.lst xs)=>H8 i g c te (Bf nt caps S) xs.length 0 G1
  | _=>.bad
 | .fn n f=>Dz f g c te (Bf nt caps S) n 0 G1).bind Ao
noncomputable def Ci:DB:=λ_ G=>.ok true G
noncomputable def GK (nt:Nat) (g:DG):Prop:=∀d S G S1 G1,g d S G=.ok S1 G1->∀i e,nt<=i->S[i]? =some (some e)->S1[i]? =some (some e)
noncomputable def GKs (nt:Nat) (g:DGs):Prop:=∀d S G S1 G1,g d S G=.ok S1 G1->∀i e,nt<=i->S[i]? =some (some e)->S1[i]? =some (some e)
theorem Eo (h:i < nt):GK nt (gV i):=λd S G S1 G1 e j x hj hx=>by cases e;rw [List.getElem?_set_ne (by lia)];exact hx
theorem Rz:GKs nt Cj:=λd S G S1 G1 e j x hj hx=>by
 cases d with
 | nil=>cases e;exact hx
 | cons _ _=>cases e
theorem Jo {t:DG} {u:DGs} (h1:GK nt t) (h2:GKs nt u):GKs nt (Ar t u):=λd S G S1 G1 e j x hj hx=>by
 cases d with
 | nil=>cases e
 | cons a r=>
  have e':(t a S G).bind (λS1 G1=>u r S1 G1)=.ok S1 G1:=e;cases ht:t a S G with
  | ok S2 G2=>rw [ht] at e';exact h2 _ _ _ _ _ e' j x hj (h1 _ _ _ _ _ ht j x hj hx)
  | err _ _=>rw [ht] at e';cases e'
  | bad=>rw [ht] at e';cases e'
theorem Uc {n:Nat} {t:DGs} (h:GKs nt t):GK nt (Cd n t):=λd S G S1 G1 e j x hj hx=>by
 cases d with
 | tup ds=>
  unfold Cd at e;dsimp only at e;split at e
  ·exact h _ _ _ _ _ e j x hj hx
  ·cases e
 | _=>cases e
theorem ZRy {r:R DSt} {f:DSt->DH->R D} (h:out E a (r.bind f) Q):
  Ga E a r (λσ H=>∃(b:Wd) (S:DSt) (G:DH),b.H=H/\Ext a b/\Sim b G/\RepS b S σ/\r=.ok S G/\out E b (f S G) Q):=by
 cases r with
 | ok d G=>exact λb v x s q=>⟨b,d,G,rfl,x,s,q,rfl,out.mono x h⟩
 | err e G=>exact h
 | bad=>exact h
theorem R.bind_assoc {γ:Type} (r:R α) (f:α->DH->R β) (g:β->DH->R γ):(r.bind f).bind g=r.bind λa G=>(f a G).bind g:=by cases r <;> rfl
theorem ZJH {r:R ItD} {f:ItD->DH->R D} (h:out E a (r.bind f) Q):
  outI E a r (λJ H=>∃(b:Wd) (d:ItD) (G:DH),b.H=H/\Ext a b/\Sim b G/\RepI b d J/\r=.ok d G/\out E b (f d G) Q):=by
 cases r with
 | ok d G=>exact λb v x s q=>⟨b,d,G,rfl,x,s,q,rfl,out.mono x h⟩
 | err e G=>exact h
 | bad=>exact h
section
variable {prog:Program} {w:World} {A:Around} {R':Result->Shared->Prop} {s:Shared}
theorem ZMi {elt target iter:Expr} {ifs:List Expr} {scope:Scope} {pos:Pos} {it acc:Value} {env:Env} (I:Nat->Shared->Prop)
  (turn:∀n s,I n s->wpAny (model prog w) A (pyNext it) (λr s₁=>match r with
   | none=>R' (.ok .next) s₁
   | some v=>wpAny (model prog w) A (letOwnedTupleGo target it v) (λ_ s₁=>wpAny (model prog w) A (assign target env v) (λ_ s₂=>
     wpAny (model prog w) A (forIn ifs true λc r=>if r=true then do let ok<-isTrue c env (eval c env);pure (ForInStep.yield ok) else pure (ForInStep.yield r)) (λok s₃=>
      if ok=true then wpAny (model prog w) A (eval elt env) (λx s₄=>
       wpAny (model prog w) A (call (.builtin "list.append") [acc,x]) (λ_ s₅=>∃m,m < n/\I m s₅) (λ_ _=>False) s₄) (λ_ _=>False) s₃
      else∃m,m < n/\I m s₃) (λ_ _=>False) s₂) (λ_ _=>False) s₁) (λ_ _=>False) s₁) (λ_ _=>False) s)
  (n:Nat) (h:I n s):
  codeAny (model prog w) A (.compLoop (.ListComp elt [⟨target,iter,ifs,0⟩] scope pos) 0 it acc env) R' s:=by
 refine codeAny_loop rfl I (λn s hI=> ?_) n h
 show wpAny _ A ((compTurn (.ListComp elt [⟨target,iter,ifs,0⟩] scope pos) 0 it acc env).onRaise (λx=>do noteFrame x env;theTreesLotGoes x)) _ _ s
 refine wpAny_noted ?_;rw [compTurn_list];refine wpAny_mono ?_ (λ_ _ q=>q) (λ_ _ (f:False)=>f.elim);refine wpAny_bind (wpAny_standAt (wpAny_bind (wpAny_mono (turn n s hI) (λr s₁ h₁=> ?_) λ_ _ h'=>h')));cases r with
 | none=>exact wpAny_pure h₁
 | some v=>
  refine wpAny_bind (wpAny_mono h₁ (λ_ s₂' h₁=> ?_) λ_ _ h'=>h');refine wpAny_bind (wpAny_mono h₁ (λ_ s₂ h₂=>wpAny_bind (wpAny_mono h₂ (λok s₃ h₃=> ?_) λ_ _ h'=>h')) λ_ _ h'=>h');cases ok with
  | false=>exact wpAny_pure ⟨rfl,h₃⟩
  | true=>
   exact wpAny_bind (wpAny_bind (wpAny_mono h₃ (λx s₄ h₄=>wpAny_bind (wpAny_mono h₄ (λ_ s₅ h₅=>wpAny_pure (wpAny_pure ⟨rfl,h₅⟩)) λ_ _ h'=>h')) λ_ _ h'=>h'))
end
noncomputable def QTs (X:Cx) (E:XK) (ifs:List Expr) (t:DB):Prop:=
 ∀(pins:List (Addr×Obj)) (s:Shared) (σ:St) (H:Hp) (Q:Bool->Hp->Prop),Inv X pins σ H s->lB X.K E t σ H Q->
  wpAny (model X.prog X.w) X.A (forIn ifs true λc r=>if r=true then do let ok<-isTrue c X.env (eval c X.env);pure (ForInStep.yield ok) else pure (ForInStep.yield r)) (TP X pins σ Q) X.xe s
theorem Gu:QTs X E [] Ci:=λpins s σ H Q I h=>by obtain ⟨a,S,G,hk,rfl,sm,r,h⟩:=h;exact wpAny_tests_nil ⟨a.H,I,h a (Ext.refl a) sm⟩
theorem ZNI {c:Expr} {t:DB} (hc:QT X E c t):QTs X E [c] t:=λpins s σ H Q I h=>wpAny_tests_one (hc pins s σ H Q I h)
section
variable {X:Cx} {E:XK} {N:List Str} {scope:Scope} {nt:Nat} {caps:List Nat} {tg elt iter:Expr} {ifs:List Expr} {pos:Pos} {it:DI} {g:DG} {c:DB} {te:DE}
theorem ZQM (r:RepS a S σ):RepS a (Bf nt caps S) (List.replicate nt none++caps.map λj=>(σ[j]?).join):=by
 refine ⟨by simp [Bf],λi d h=> ?_⟩;unfold Bf at h;by_cases hi:i < nt
 ·rw [List.getElem?_append_left (by simpa using hi),List.getElem?_replicate] at h
  split at h <;> cases h
 ·rw [List.getElem?_append_right (by simpa using hi),List.getElem?_map] at h;rw [List.getElem?_append_right (by simpa using hi),List.getElem?_map];rw [List.length_replicate] at h ⊢;cases e:caps[i - nt]? with
  | none=>rw [e] at h;cases h
  | some j=>
   rw [e] at h;have h1:(S[j]?).join=some d:=by simpa using h
   have h2:S[j]? =some (some d):=by
    cases q:S[j]? with
    | none=>rw [q] at h1;cases h1
    | some o=>
     rw [q] at h1;have h1':o=some d:=h1;rw [h1']
   obtain ⟨v,ev,rv⟩:=r.get j d h2;exact ⟨v,by simp [ev],rv⟩
theorem ZOz (h:(Bf nt caps S)[i]? =some (some d)):nt<=i:=by
 unfold Bf at h;by_cases hi:i < nt
 ·rw [List.getElem?_append_left (by simpa using hi),List.getElem?_replicate] at h
  split at h <;> cases h
 ·lia
theorem ZCi (hc:X.calm=true) (cs:CompSc X N scope nt caps)
  (hg:∀C s₀ H₀ ex,QG (blk X N scope C s₀ H₀ ex) E0 tg g) (gk:GK nt g) (hts:∀C s₀ H₀ ex,QTs (blk X N scope C s₀ H₀ ex) E0 ifs c) (he:∀C s₀ H₀ ex,QE (blk X N scope C s₀ H₀ ex) E0 elt te)
  {pins:List (Addr×Obj)} {σ:St} {s:Shared} {a:Wd} {S:DSt} {G:DH} {J:It} {n0:Nat} {f:Nat->DH->Option (Option D)} {i0:Addr} {fp:List Addr} {tn:Nat->Heap->Prop} (I:Inv X pins σ a.H s) (hk:a.K=X.K) (sm:Sim a G) (rS:RepS a S σ)
  (T:Turn X.prog X.w X.K tg J fp i0 tn) (t0:tn 0 s.heap) (hf:∀b∈fp,FpOk X pins a.H b) (rJ:RepI a (.fn n0 f) J) {Q:VK}
  (h:out E0 a ((Dz f g c te (Bf nt caps S) n0 0 G).bind Ao) Q)
  {RR:Value->Addr->Result->Shared->Prop} {E':Value->Shared->Prop}
  (hRR:∀(D C:Addr) (s':Shared) (b:Wd) (vs:List V),Inv X pins σ (upd b.H D (.lst vs)) s'->b.H D=none->s.heap.objs.size<=C->D≠C->(∃m,s'.heap.Ns C m)->b.H C=none->Q (.ref D) (upd b.H D (.lst vs))->RR (.ref D) C (.ok .next) s'):
  wpAny (model X.prog X.w) X.A (newList []) (λacc s₃=>wpAny (model X.prog X.w) X.A (newFunctionEnv scope X.env.globals (Fo X.env scope.names []) [] X.env.qual none .none (some X.env)) (λcenv s₄=>
   codeAny (model X.prog X.w) X.A (.compStart (.ListComp elt [⟨tg,iter,ifs,0⟩] scope pos) 0 (.ref i0) acc {cenv with scope:=relabel scope X.env}) (RR acc cenv.locals) s₄) E' s₃) E' s:=by
 refine wpAny_newObj_type (wpAny_newFunctionEnv cs.nocell (by intro y hy;simp at hy) (λh₁ hns₁ hsb₁=> ?_) cs.kind);dsimp only at hns₁ hsb₁ ⊢;generalize hH2:s.heap.push {cls:=.type "list",dict:=none,data:=.seq ([]:List Value).toArray}=H2 at hns₁ hsb₁ ⊢;have hC:H2.objs.size=s.heap.objs.size + 1:=by rw [<-hH2,Heap.size_push]
 have hDC:s.heap.objs.size≠H2.objs.size:=by rw [hC];exact Nat.ne_of_lt (Nat.lt_succ_self _)
 have hCle:s.heap.objs.size<=H2.objs.size:=by rw [hC];exact Nat.le_succ _
 have fpOld:∀b∈fp,b < s.heap.objs.size:=λb hb=>by obtain ⟨o,e,_⟩:=T.obj 0 _ t0 b hb;exact Heap.lt_size e
 have hDf:s.heap.objs.size ∉ fp:=λhm=>Nat.lt_irrefl _ (fpOld _ hm)
 have hCf:H2.objs.size ∉ fp:=λhm=>by have:=fpOld _ hm;rw [hC] at this;exact Nat.lt_irrefl _ (Nat.lt_of_succ_lt this)
 have old:∀b o,s.heap.get? b=some o->h₁.get? b=some o:=λb o e=>
  hsb₁.extBut b o (by rw [hC];exact Nat.ne_of_lt (Nat.lt_succ_of_lt (Heap.lt_size e))) (Heap.get?_push_of_some _ (hH2 ▸ Heap.get?_push_of_some _ e))
 have hacc:h₁.PlainList s.heap.objs.size ([]:List Value).toArray:=⟨_,hsb₁.extBut _ _ hDC (Heap.get?_push_of_some _ (hH2 ▸ Heap.get?_push_size _ rfl))⟩;generalize hCe:H2.objs.size=C at *;generalize hDe:s.heap.objs.size=Dd at *;let B:=blk X N scope C s a.H fp;have okB:B.Ok:=ZRV cs I hf (by rw [hDe];exact hCle) hCf;let σ0:St:=List.replicate nt none++caps.map λj=>(σ[j]?).join
 have start:∀tk,Inv B [] σ0 a.H {s with heap:=h₁,toks:=tk}:=λtk=>by
  refine ⟨okB,rfl,I.bare,Un.kept old,⟨_,hns₁,λi x v e1 e2 e3=> ?_⟩,λx d' e=> ?_,I.hok.fresh (by rw [hDe];exact hCle),λx d' e=> ?_,λp hp=> ?_,I.hok.kept old,?_⟩
  ·have hi:nt<=i:=by
    by_cases hi:i < nt
    ·have e2':σ0[i]? =some (some v):=e2;rw [List.getElem?_append_left (by simpa using hi),List.getElem?_replicate] at e2'
     split at e2' <;> cases e2'
    ·lia
   have e2':σ0[i]? =some (some v):=e2;rw [List.getElem?_append_right (by simpa using hi),List.getElem?_map,List.length_replicate] at e2';cases ej:caps[i - nt]? with
   | none=>rw [ej] at e2';cases e2'
   | some j=>
    rw [ej] at e2';have h1:(σ[j]?).join=some v:=by simpa using e2'
    have h2:σ[j]? =some (some v):=by
     cases q:σ[j]? with
     | none=>rw [q] at h1;cases h1
     | some o=>
      rw [q] at h1;have h1':o=some v:=h1;rw [h1']
    obtain ⟨y,ey,en,ek⟩:=cs.cap (i - nt) j ej;have exy:x=y:=by
     have:nt + (i - nt)=i:=by lia
     rw [this] at en;have e1':N[i]? =some x:=e1;rw [e1'] at en;exact Option.some.inj en
    subst exy;have kx:=cs.free (x,.free) (PySem.mem_of_lookup ek) rfl;have vis:Vis X.env.scope x:=by
     rcases kx with kx | kx
     ·exact .inr (.inl kx)
     ·exact .inr (.inr kx)
    obtain ⟨m,hn,hl⟩:=I.loc;obtain ⟨u,ru,lk⟩:=hl j x v ey h2 vis;refine ⟨u,ru,?_⟩;rcases lk with ⟨k1,_⟩ | ⟨k1,c1,ec,hcell⟩
    ·rcases kx with kx | kx
     ·rw [k1] at kx;cases kx
     ·rw [k1] at kx;cases kx
    ·refine .inr ⟨?_,c1,?_,?_⟩
     ·show (relabel scope X.env).names.lookup x=some .cell∨(relabel scope X.env).names.lookup x=some .free;rw [ZHg,ek];simp only [Option.map_some];split
      ·exact .inl rfl
      ·exact .inr rfl
     ·obtain ⟨d1,hd1⟩:=Wx (env:=X.env) (x:=x) (names:=scope.names) (cs:= []) (.inl (PySem.mem_of_lookup ek));obtain ⟨d2,hd2⟩:=ZCT hd1;have:=cs.cl I.ok hd2;rw [ec] at this;cases this;exact hd2
     ·obtain ⟨o,e,dd⟩:=hcell;exact ⟨o,old _ _ e,dd⟩
  ·obtain ⟨v,o,e',dd⟩:=I.cell x d' (cs.cl I.ok e);exact ⟨v,o,old _ _ e',dd⟩
  ·exact I.Ir x d' (cs.cl I.ok e)
  ·exact absurd hp (by simp [B,blk])
  ·show σ0.length=N.length;rw [cs.len];simp [σ0]
 have rS0:RepS a (Bf nt caps S) σ0:=ZQM rS;have aD:a.H Dd=none:=I.hok.fresh (by rw [hDe];exact Nat.le_refl _);have young:∀b∈fp,b≠C:=λb hb z=>hCf (z ▸ hb)
 have fpB:∀{H':Hp} {ps:List (Addr×Obj)},(∀b∈fp,H' b=none)->(∀p∈ps,p.1 ∉ fp)->∀b∈fp,FpOk B ps H' b:=λ{H' ps} hn hps b hb=>
  ⟨hn b hb,young b hb,okB.exfs b hb,.inl hb,λx d' e=>(hf b hb).2.2.2.2.1 x d' (cs.cl I.ok e),λp hp z=>by
   have hp':p∈ps:=by simpa [B,blk] using hp
   exact hps p hp' (z ▸ hb)⟩
 have nstk:Dd ∉ frs X.stack:=λz=>by
  rcases List.mem_cons.mp (I.Wb Dd z) with z | z
  ·have:=I.lt;rw [hDe,<-z] at this;exact Nat.lt_irrefl _ this
  ·exact I.nofs (by rw [hDe];exact Nat.le_refl _) z
 have pinD:∀{σ':St} {H':Hp} {s':Shared} {its:List Value} {nD:Nat},Inv B [] σ' H' s'->s'.heap.get? Dd=some {cls:=.type "list",data:=.seq its.toArray nD}->H' Dd=none->Inv B [(Dd,{cls:=.type "list",data:=.seq its.toArray nD})] σ' H' s':=λ{σ' H' s' its nD} J e n=>
  J.M4 λp hp=>by
   have ep:p=(Dd,{cls:=.type "list",data:=.seq its.toArray nD}):=by simpa using hp
   subst ep;exact ⟨e,n,hDC,nstk,λv' z=>by cases z⟩
 have fin:∀(s':Shared) (b:Wd) (σ':St) (its:List Value) (ds:List D) (G':DH),Inv B [] σ' b.H s'->Ext a b->Sim b G'->s'.heap.PlainList Dd its.toArray->b.H Dd=none->(∃vs,Vals vs its/\Reps b ds vs)->out E0 b (Ao ds G') Q->RR (.ref Dd) C (.ok .next) s':=by
  intro s' b σ' its ds G' IB x sb pl hD ⟨vs,hv,rv⟩ hq;have hz:ds.length<=1000000:=by
   unfold Ao at hq;split at hq
   ·assumption
   ·exact hq.elim
  have Ix:Inv X pins σ b.H s':=I.call' IB.os IB.base IB.hok IB.bare λb hb=>⟨(hf b hb).2.2.2.1,(hf b hb).2.1,(hf b hb).2.2.2.2.1,(hf b hb).2.2.2.2.2⟩
  obtain ⟨n,eD⟩:=pl;have ylt:∀{q:Addr} {o:Obj},s.heap.get? q=some o->q≠Dd:=λe z=>by rw [z,<-hDe] at e;exact absurd (Heap.lt_size e) (Nat.lt_irrefl _)
  have Ia:Inv X pins σ (upd b.H Dd (.lst vs)) s':=by
   refine ZFH Ix hD (by rw [<-hDe];exact I.sz) ?_ (λy c' ec=> ?_) (λp hp=> ?_) ⟨?_,its,n,hv,eD⟩
   ·rw [<-hDe];exact Nat.ne_of_gt I.lt
   ·obtain ⟨v,o,e,_⟩:=I.cell y c' ec;exact ylt e
   ·exact ylt (I.pin p hp).1
   ·rw [<-rv.length];exact Nat.le_trans hz size6
  refine hRR Dd C s' b vs Ia hD hCle hDC (let ⟨m,hn,_⟩:=IB.loc;⟨m,hn⟩) IB.free ?_;unfold Ao at hq;rw [if_pos hz] at hq;exact La sb rv hq Dd hD
 have turnX:∀(n:Nat) (P:Nat->Shared->Prop) (rest:DH->R (List D)) (s1:Shared) (b:Wd) (G1:DH) (σ1:St) (its:List Value) (acc:List D) (u:Value) (v:V) (x:D) (i:Nat),Inv B [] σ1 b.H s1->Ext a b->Sim b G1->RepS b (Bf nt caps S) σ1->tn i s1.heap->(∀q∈fp,b.H q=none)->
   s1.heap.PlainList Dd its.toArray->b.H Dd=none->(∃vs,Vals vs its/\Reps b acc vs)->RelV v u->Rep b x v->
   out E0 b (((g x (Bf nt caps S) G1).bind λS1 G1=>(c S1 G1).bind λk G2=>if k=true then (te S1 G2).bind λd G3=>(rest G3).bind λds G4=>.ok (d::ds) G4 else rest G2).bind λds G=>Ao (acc++ds) G) Q->
   (∀(s2:Shared) (b2:Wd) (G2:DH) (σ2:St) (its2:List Value) (acc2:List D),Inv B [] σ2 b2.H s2->Ext a b2->Sim b2 G2->RepS b2 (Bf nt caps S) σ2->tn i s2.heap->(∀q∈fp,b2.H q=none)->
    s2.heap.PlainList Dd its2.toArray->b2.H Dd=none->(∃vs,Vals vs its2/\Reps b2 acc2 vs)->out E0 b2 ((rest G2).bind λds G=>Ao (acc2++ds) G) Q->∃m,m < n/\P m s2)->
   wpAny (model X.prog X.w) X.A (assign tg B.env u) (λ_ s₂=>
     wpAny (model X.prog X.w) X.A (forIn ifs true λc r=>if r=true then do let ok<-isTrue c B.env (eval c B.env);pure (ForInStep.yield ok) else pure (ForInStep.yield r)) (λok s₃=>
      if ok=true then wpAny (model X.prog X.w) X.A (eval elt B.env) (λx s₄=>
       wpAny (model X.prog X.w) X.A (call (.builtin "list.append") [.ref Dd,x]) (λ_ s₅=>∃m,m < n/\P m s₅) (λ_ _=>False) s₄) (λ_ _=>False) s₃
      else∃m,m < n/\P m s₃) (λ_ _=>False) s₂) (λ_ _=>False) s1:=by
  intro n P rest s1 b G1 σ1 its acc u v x i I1 x1 sb rSb t1 hfp pl hD hacc' ru rx hq next
  rw [R.bind_assoc] at hq;obtain ⟨nD,eD⟩:=id pl;let pinD:List (Addr×Obj):= [(Dd,{cls:=.type "list",data:=.seq its.toArray nD})];have pinOk:∀{σ':St} {H':Hp} {s':Shared},Inv B (pinD++Pu fp s1.heap) σ' H' s'->s'.heap.PlainList Dd its.toArray/\H' Dd=none/\tn i s'.heap/\∀q∈fp,H' q=none:=λ{σ' H' s'} J=>by
   have p1:=J.pin (Dd,{cls:=.type "list",data:=.seq its.toArray nD}) (List.mem_append_right _ (List.mem_append_left _ (by simp [pinD])));refine ⟨⟨nD,p1.1⟩,p1.2.1,T.keep _ _ _ t1 λq hq' o e=>(J.pin (q,o) (List.mem_append_right _ (List.mem_append_right _ (Xb hq' e)))).1,λq hq'=> ?_⟩;obtain ⟨o,e,_⟩:=T.obj _ _ t1 q hq';exact (J.pin (q,o) (List.mem_append_right _ (List.mem_append_right _ (Xb hq' e)))).2.1
  have I2:Inv B (pinD++Pu fp s1.heap) σ1 b.H s1:=I1.M4 λp hp=>by
   rcases List.mem_append.mp hp with hp | hp
   ·have e:p=(Dd,{cls:=.type "list",data:=.seq its.toArray nD}):=by simpa [pinD] using hp
    subst e;refine ⟨eD,hD,hDC,λz=> ?_,λv' z=>by cases z⟩;exact nstk z
   ·obtain ⟨hb,e⟩:=ZGp hp;obtain ⟨f0,f1,f2,_⟩:=fpB (ps:= []) hfp (λp hp=>by cases hp) p.1 hb;obtain ⟨o,e',dd⟩:=T.obj _ _ t1 p.1 hb;rw [e] at e';cases e';exact ⟨e,f0,f1,f2,dd⟩
  refine thn (hg C s a.H fp _ s1 σ1 b.H v u _ I2 ru ⟨b,Bf nt caps S,G1,x,x1.k.trans hk,rfl,sb,rSb,rx,(ZRy hq).imp λ_ _ z=>z⟩) ?_;rintro _ s2 ⟨σ2,H2',J2,b2,S2,G2,rfl,y2,sb2,rS2,eg,hq2⟩;rw [R.bind_assoc] at hq2;have rS2':RepS b2 (Bf nt caps S) σ2:=⟨by have h1:=J2.len;have h2:σ1.length=N.length:=I1.len;rw [rSb.len,h2];exact h1.symm,λj e' hj=>rS2.get j e' (gk _ _ _ _ _ eg j e' (ZOz hj) hj)⟩
  refine thn (hts C s a.H fp _ s2 σ2 b2.H _ J2 ⟨b2,S2,G2,y2.k.trans (x1.k.trans hk),rfl,sb2,rS2,(ZF5 hq2).imp λ_ _ z=>z⟩) ?_;rintro k s3 ⟨H3,J3,b3,G3,rfl,y3,sb3,_,hq3⟩;cases k with
  | false=>
   obtain ⟨p1,p2,p3,p4⟩:=pinOk J3;have Jn:Inv B [] σ2 b3.H s3:=J3.M4 λp hp=>by cases hp
   obtain ⟨vs,hv,rv⟩:=hacc'
   exact next s3 b3 G3 σ2 its acc Jn (x1.trans (y2.trans y3)) sb3 (rS2'.mono y3) p3 p4 p1 p2 ⟨vs,hv,(rv.mono y2).mono y3⟩ hq3
  | true=>
   have hq3':out E0 b3 (((te S2 G3).bind λd G3=>(rest G3).bind λds G4=>.ok (d::ds) G4).bind λds G=>Ao (acc++ds) G) Q:=hq3;rw [R.bind_assoc] at hq3';refine thn (he C s a.H fp _ s3 σ2 b3.H _ J3 ⟨b3,S2,G3,y3.k.trans (y2.k.trans (x1.k.trans hk)),rfl,sb3,rS2.mono y3,(Ge hq3').imp λ_ _ z=>z⟩) ?_;rintro w s4 ⟨vw,H4,J4,rw',b4,d4,G4,rfl,y4,sb4,q4,_,hq4⟩;obtain ⟨p1,p2,p3,p4⟩:=pinOk J4;rw [R.bind_assoc] at hq4
   have hq4':out E0 b4 ((rest G4).bind λds G=>Ao ((acc++ [d4])++ds) G) Q:=by
    have e:(λ(ds:List D) (G:DH)=>(R.ok (d4::ds) G).bind λds G=>Ao (acc++ds) G)=λds G=>Ao ((acc++ [d4])++ds) G:=by funext ds G;simp
    rw [<-e];exact hq4
   obtain ⟨vs,hv,rv⟩:=hacc';have hsz:its.toArray.size<=sizeLine:=by
    have:acc.length<=1000000:=by
     cases hr:rest G4 with
     | ok ds G5=>
      rw [hr] at hq4';have hq5:out E0 b4 (Ao ((acc++ [d4])++ds) G5) Q:=hq4';unfold Ao at hq5;split at hq5
      ·rename_i hl;simp at hl;lia
      ·exact hq5.elim
     | err e' G5=>rw [hr] at hq4';exact hq4'.elim
     | bad=>rw [hr] at hq4';exact hq4'.elim
    rw [List.size_toArray,<-hv.length,<-rv.length];exact Nat.le_trans this size6
   refine wpAny_list_append_plain p1 (λh' hpl hsb=> ?_) hsz;have Jn:Inv B [] σ2 b4.H s4:=J4.M4 λp hp=>by cases hp
   have J5:Inv B [] σ2 b4.H {s4 with heap:=h'}:=by refine Jn.turned (it:=Dd) (t':=s4.toks) (λq o hq' e=>(hsb.2 q hq').trans e) p2 hDC (.inr (by show s.heap.objs.size<=Dd;rw [hDe];exact Nat.le_refl _)) (λy c' ec=> ?_) (λp hp=>absurd hp (by simp [B,blk]));obtain ⟨v',o,e,_⟩:=I.cell y c' (cs.cl I.ok ec);intro z;rw [z,<-hDe] at e;exact absurd (Heap.lt_size e) (Nat.lt_irrefl _)
   refine next _ b4 G4 σ2 (its++ [w]) (acc++ [d4]) J5 (x1.trans (y2.trans (y3.trans y4))) sb4 ((rS2'.mono y3).mono y4) (T.keep _ _ _ p3 λq hq' o e=>(hsb.2 q (λz=>hDf (z ▸ hq'))).trans e) p4 (by simpa using hpl) p2 ⟨vs++ [vw],hv.append (.cons rw' .nil),(((rv.mono y2).mono y3).mono y4).append (Reps.cons q4 Reps.nil)⟩ hq4'
 have loop:∀s₃:Shared,s₃={s with heap:=h₁,toks:=s.toks + ([]:List (Str×Value)).length}->
   codeAny (model X.prog X.w) X.A (.compLoop (.ListComp elt [⟨tg,iter,ifs,0⟩] scope pos) 0 (.ref i0) (.ref Dd) B.env) (RR (.ref Dd) C) s₃:=by
  rintro s₃ rfl;have t1:tn 0 h₁:=T.keep _ _ _ t0 λq _ o e=>old q o e
  have fp0:∀q∈fp,a.H q=none:=λq hq=>(hf q hq).1
  have walk:∀b:Wd,Ext a b->∀G,Sim b G->∀i,(∀d,f i G=some (some d)->J.go i b.H/\∀x H',J.yld i b.H x H'->∃c:Wd,c.H=H'/\Ext b c/\Sim c G/\Rep c d x)/\(f i G=some none->J.stop i b.H):=rJ;refine ZMi (λm s'=>∃(i:Nat) (b:Wd) (G':DH) (σ':St) (its:List Value) (acc:List D),Inv B [] σ' b.H s'/\Ext a b/\Sim b G'/\RepS b (Bf nt caps S) σ'/\tn i s'.heap/\(∀q∈fp,b.H q=none)/\s'.heap.PlainList Dd its.toArray/\b.H Dd=none/\(∃vs,Vals vs its/\Reps b acc vs)/\
   out E0 b ((Dz f g c te (Bf nt caps S) m i G').bind λds G=>Ao (acc++ds) G) Q) ?_ n0 ⟨0,a,G,σ0,[],[],start _,Ext.refl a,sm,rS0,t1,fp0,hacc,aD,⟨[],.nil,rfl⟩,by simpa using h⟩
  rintro m s' ⟨i,b,G',σ',its,acc,IB,x,sb,rSb,ti,hfp,pl,hD,hac,hq⟩;obtain ⟨nD,eD⟩:=pl;have I0:=pinD IB eD hD;have f0:=fpB (ps:= [(Dd,{cls:=.type "list",data:=.seq its.toArray nD})]) hfp (λp hp=>by
   have ep:p=(Dd,{cls:=.type "list",data:=.seq its.toArray nD}):=by simpa using hp
   subst ep;exact hDf)
  have stop:J.stop i b.H->out E0 b (Ao acc G') Q->wpAny (model X.prog X.w) X.A (pyNext (.ref i0)) (λr s₁=>match r with
    | none=>RR (.ref Dd) C (.ok .next) s₁
    | some v=>wpAny (model X.prog X.w) X.A (letOwnedTupleGo tg (.ref i0) v) (λ_ s₁=>wpAny (model X.prog X.w) X.A (assign tg B.env v) (λ_ s₂=>
     wpAny (model X.prog X.w) X.A (forIn ifs true λc r=>if r=true then do let ok<-isTrue c B.env (eval c B.env);pure (ForInStep.yield ok) else pure (ForInStep.yield r)) (λok s₃=>
      if ok=true then wpAny (model X.prog X.w) X.A (eval elt B.env) (λx s₄=>
       wpAny (model X.prog X.w) X.A (call (.builtin "list.append") [.ref Dd,x]) (λ_ s₅=>∃m',m' < m/\∃(i:Nat) (b:Wd) (G':DH) (σ':St) (its:List Value) (acc:List D),Inv B [] σ' b.H s₅/\Ext a b/\Sim b G'/\RepS b (Bf nt caps S) σ'/\tn i s₅.heap/\(∀q∈fp,b.H q=none)/\s₅.heap.PlainList Dd its.toArray/\b.H Dd=none/\(∃vs,Vals vs its/\Reps b acc vs)/\
        out E0 b ((Dz f g c te (Bf nt caps S) m' i G').bind λds G=>Ao (acc++ds) G) Q) (λ_ _=>False) s₄) (λ_ _=>False) s₃
      else∃m',m' < m/\∃(i:Nat) (b:Wd) (G':DH) (σ':St) (its:List Value) (acc:List D),Inv B [] σ' b.H s₃/\Ext a b/\Sim b G'/\RepS b (Bf nt caps S) σ'/\tn i s₃.heap/\(∀q∈fp,b.H q=none)/\s₃.heap.PlainList Dd its.toArray/\b.H Dd=none/\(∃vs,Vals vs its/\Reps b acc vs)/\
        out E0 b ((Dz f g c te (Bf nt caps S) m' i G').bind λds G=>Ao (acc++ds) G) Q) (λ_ _=>False) s₂) (λ_ _=>False) s₁) (λ_ _=>False) s₁) (λ_ _=>False) s':=by
   intro st hq';refine thn (T.done B rfl rfl rfl hc i _ s' σ' b.H _ I0 f0 ti st) ?_;rintro r s1 ⟨rfl,I2⟩;have pD:=(I2.pin (Dd,{cls:=.type "list",data:=.seq its.toArray nD}) (List.mem_append_right _ (by simp))).1;exact fin s1 b σ' its acc G' (I2.M4 λp hp=>by cases hp) x sb ⟨nD,pD⟩ hD hac hq'
  cases m with
  | zero=>
   unfold Dz at hq;split at hq
   ·rename_i hf;exact stop ((walk b x G' sb i).2 hf) (by have hq':out E0 b (Ao (acc++ []) G') Q:=hq;rw [List.append_nil] at hq';exact hq')
   ·exact hq.elim
  | succ m=>
   unfold Dz at hq;split at hq
   ·rename_i d1 hf;obtain ⟨go,yl⟩:=(walk b x G' sb i).1 d1 hf;refine thn (T.item B rfl rfl rfl hc i _ s' σ' b.H _ I0 f0 ti go) ?_;rintro r s1 ⟨u,rfl,hgo⟩;refine thn hgo ?_;rintro _ s2 ⟨v,H',I2,ru,y,t2,hfp2⟩;obtain ⟨cc,rfl,xx,ss,rd⟩:=yl v H' y;have pD:=I2.pin (Dd,{cls:=.type "list",data:=.seq its.toArray nD}) (List.mem_append_right _ (by simp));obtain ⟨vs1,hv1,rv1⟩:=hac;refine turnX _ _ (λG3=>Dz f g c te (Bf nt caps S) m (i + 1) G3) s2 cc G' σ' its acc u _ d1 (i + 1) (I2.M4 λp hp=>by cases hp) (x.trans xx) ss (rSb.mono xx) t2 hfp2 ⟨nD,pD.1⟩ pD.2.1 ⟨vs1,hv1,rv1.mono xx⟩ ru rd (out.mono xx hq) ?_
    intro s3 b3 G3 σ3 its3 acc3 a1 a2 a3 a4 a5 a6 a7 a8 a9 a10;exact ⟨m,Nat.lt_succ_self _,i + 1,b3,G3,σ3,its3,acc3,a1,a2,a3,a4,a5,a6,a7,a8,a9,a10⟩
   ·rename_i hf;exact stop ((walk b x G' sb i).2 hf) (by have hq':out E0 b (Ao (acc++ []) G') Q:=hq;rw [List.append_nil] at hq';exact hq')
   ·exact hq.elim
 exact codeAny_compStart_list (loop _ rfl) (T.self _ 0 _ _ _ (T.keep _ _ _ t0 λq _ o e=>old q o e) (loop _ rfl))
theorem ZDO:∀(n j:Nat) (G:DH),j + n=xs.length->Eb g c te S (xs.drop j) G=Dz (λj _=>some xs[j]?) g c te S n j G
 | 0,j,G,h=>by
  rw [List.drop_of_length_le (by lia)]
  show _=(match some xs[j]? with | some none=>R.ok [] G | _=>.bad)
  rw [List.getElem?_eq_none (by lia)]
  rfl
 | n + 1,j,G,h=>by
  have hj:j < xs.length:=by lia
  rw [List.drop_eq_getElem_cons hj]
  show (g xs[j] S G).bind _=(match some xs[j]? with | some (some x)=>_ | some none=>R.ok [] G | none=>.bad)
  rw [List.getElem?_eq_getElem hj];dsimp only
  congr 1
  funext S1 G1
  congr 1
  funext k G2;rw [ZDO n (j + 1) G2 (by lia)]
  congr 1
  congr 1
  funext d G3;rw [ZDO n (j + 1) G3 (by lia)]
theorem ZGm:∀(n j:Nat) (G:DH),H8 i g c te S n j G=Dz (mtF i) g c te S n j G
 | 0,j,G=>by
  unfold H8 Dz mtF;cases G[i]? with
  | none=>rfl
  | some o=>
   cases o with
   | lst xs=>
    dsimp only;by_cases hj:j < xs.length
    ·rw [if_neg (by lia),List.getElem?_eq_getElem hj]
    ·rw [if_pos (by lia),List.getElem?_eq_none (by lia)]
   | _=>rfl
 | n + 1,j,G=>by
  have ih:(H8 i g c te S n (j + 1))=Dz (mtF i) g c te S n (j + 1):=funext λG=>ZGm n (j + 1) G
  unfold H8 Dz;rw [ih];unfold mtF;cases G[i]? with
  | none=>rfl
  | some o=>
   cases o with
   | lst xs=>
    dsimp only
    cases xs[j]? <;> rfl
   | _=>rfl
theorem ZG6 (hc:X.calm=true) (cs:CompSc X N scope nt caps)
  (hg:∀C s₀ H₀ ex,QG (blk X N scope C s₀ H₀ ex) E0 tg g) (gk:GK nt g) (hts:∀C s₀ H₀ ex,QTs (blk X N scope C s₀ H₀ ex) E0 ifs c) (he:∀C s₀ H₀ ex,QE (blk X N scope C s₀ H₀ ex) E0 elt te)
  {pins:List (Addr×Obj)} {σ:St} {s:Shared} {a:Wd} {S:DSt} {G:DH} {J:It} {d:ItD} {i0:Addr} {fp:List Addr} {tn:Nat->Heap->Prop} (I:Inv X pins σ a.H s) (hk:a.K=X.K) (sm:Sim a G) (rS:RepS a S σ)
  (T:Turn X.prog X.w X.K tg J fp i0 tn) (t0:tn 0 s.heap) (hf:∀b∈fp,FpOk X pins a.H b) (rJ:RepI a d J) {Q:VK}
  (h:out E0 a ((match d with
   | .pure xs=>Eb g c te (Bf nt caps S) xs G
   | .mt i=>match G[i]? with
    | some (.lst xs)=>H8 i g c te (Bf nt caps S) xs.length 0 G
    | _=>.bad
   | .fn n f=>Dz f g c te (Bf nt caps S) n 0 G).bind Ao) Q)
  {RR:Value->Addr->Result->Shared->Prop} {E':Value->Shared->Prop}
  (hRR:∀(D C:Addr) (s':Shared) (b:Wd) (vs:List V),Inv X pins σ (upd b.H D (.lst vs)) s'->b.H D=none->s.heap.objs.size<=C->D≠C->(∃m,s'.heap.Ns C m)->b.H C=none->Q (.ref D) (upd b.H D (.lst vs))->RR (.ref D) C (.ok .next) s'):
  wpAny (model X.prog X.w) X.A (newList []) (λacc s₃=>wpAny (model X.prog X.w) X.A (newFunctionEnv scope X.env.globals (Fo X.env scope.names []) [] X.env.qual none .none (some X.env)) (λcenv s₄=>
   codeAny (model X.prog X.w) X.A (.compStart (.ListComp elt [⟨tg,iter,ifs,0⟩] scope pos) 0 (.ref i0) acc {cenv with scope:=relabel scope X.env}) (RR acc cenv.locals) s₄) E' s₃) E' s:=by
 cases d with
 | pure xs=>
  have h':out E0 a ((Eb g c te (Bf nt caps S) (xs.drop 0) G).bind Ao) Q:=h;rw [ZDO xs.length 0 G (by lia)] at h';exact ZCi hc cs hg gk hts he I hk sm rS T t0 hf (ZH4 rJ) h' hRR
 | mt k=>
  dsimp only at h;split at h
  ·rename_i xs hx;rw [ZGm] at h;exact ZCi hc cs hg gk hts he I hk sm rS T t0 hf (ZJP rJ) h hRR
  ·exact h.elim
 | fn n0 f=>exact ZCi hc cs hg gk hts he I hk sm rS T t0 hf rJ h hRR
end
section
variable {X:Cx} {N:List Str} {scope:Scope} {nt:Nat} {caps:List Nat} {tg elt iter:Expr} {ifs:List Expr} {pos:Pos} {it:DI} {g:DG} {c:DB} {te:DE}
theorem letGo {pins:List (Addr×Obj)} {s2 s':Shared} {h':Heap} {C:Addr} {t':Nat} {σ2:St} {H2:Hp} (I2:Inv X pins σ2 H2 s2) (Ia:Inv X pins σ H s') (hC:s2.heap.objs.size<=C) (hn:H C=none) (hsb:Heap.SameBut C s'.heap h'):Inv X pins σ H {s' with heap:=h',toks:=t'}:=by
 have young:∀{b:Addr} {o:Obj},s2.heap.get? b=some o->b≠C:=λe z=>by rw [z] at e;exact absurd (Nat.lt_of_lt_of_le (Heap.lt_size e) hC) (Nat.lt_irrefl _)
 refine Ia.turned (it:=C) (λb o hb e=>(hsb.2 b hb).trans e) hn (Nat.ne_of_gt (Nat.lt_of_lt_of_le I2.lt hC)) (.inr (Nat.le_trans I2.sz hC)) (λx c' e=> ?_) λp hp=> ?_
 ·obtain ⟨v,o,e',_⟩:=I2.cell x c' e;exact young e'
 ·exact young (I2.pin p hp).1
theorem Jl (hc:X.calm=true) (cs:CompSc X N scope nt caps) (hi:QI X E0 tg iter it)
  (hg:∀C s₀ H₀ ex,QG (blk X N scope C s₀ H₀ ex) E0 tg g) (gk:GK nt g) (hts:∀C s₀ H₀ ex,QTs (blk X N scope C s₀ H₀ ex) E0 ifs c) (he:∀C s₀ H₀ ex,QE (blk X N scope C s₀ H₀ ex) E0 elt te)
  (hs:∀x,foldedSetIterable iter X.env x=pure x:=by intro _;rfl):QE X E0 (.ListComp elt [⟨tg,iter,ifs,0⟩] scope pos) (Er it nt caps g c te):=by
 intro pins s σ H Q I h;obtain ⟨a,S,G,hk,rfl,sm,r,h⟩:=h;rw [eval_ListComp];refine wpAny_comprehension_free (use:=none) rfl hs (ZGE (cs.cells I.ok)) cs.kind cs.names (thn (hi pins s σ a.H _ I ⟨a,S,G,hk,rfl,sm,r,(ZJH h).imp λ_ _ z=>z⟩) λxv s1 h1=>thn h1 λitv s2 h2=> ?_);obtain ⟨i0,fp,tn,J,H2,rfl,I2,T,t0,f2,b,d,G1,rfl,x,sb,rJ,_,h1⟩:=h2;refine ZG6 hc cs hg gk hts he I2 (x.k.trans hk) sb (r.mono x) T t0 f2 rJ h1 (RR:=λacc C=>compPost (model X.prog X.w) X.A X.xe none (EP X pins σ Q) acc C) ?_
 intro D C s' b vs Ia hD hCle hDC ⟨m,hn⟩ hCn hq;refine ⟨m,hn,λh' hsb=>⟨.ref D,_,letGo I2 Ia hCle ?_ hsb,rfl,hq⟩⟩;rw [Az (Ne.symm hDC)];exact hCn
theorem Mj (i:Nat) {y:Str} {py spos:Pos} (hc:X.calm=true) (hN:X.N.Nodup) (cs:CompSc X N scope nt caps) (hi:QI X E0 tg iter it)
  (hg:∀C s₀ H₀ ex,QG (blk X N scope C s₀ H₀ ex) E0 tg g) (gk:GK nt g) (hts:∀C s₀ H₀ ex,QTs (blk X N scope C s₀ H₀ ex) E0 ifs c) (he:∀C s₀ H₀ ex,QE (blk X N scope C s₀ H₀ ex) E0 elt te)
  (hy:X.N[i]? =some y:=by rfl) (hx:Loc X.env.scope y:=by first | exact Or.inl rfl | exact Or.inr rfl) (hf:X.fn y=true∨X.env.scope.names.lookup y=some .local:=by first | exact .inl rfl | exact .inr rfl | assumption)
  (hsw:swapsWith (.ListComp elt [⟨tg,iter,ifs,0⟩] scope pos) (some (.Name y py)) spos.line X.env=pure true:=by rfl)
  (hs:∀x,foldedSetIterable iter X.env x=pure x:=by intro _;rfl):QS X E0 (.Assign [.Name y py] (.ListComp elt [⟨tg,iter,ifs,0⟩] scope pos) spos) (sAs (Er it nt caps g c te) (gV i)):=by
 intro pins s σ H W I h;obtain ⟨a,S,G,hk,rfl,sm,r,h⟩:=h;have h0:=Hk h;rw [exec_Assign_Name_used _ _ _ _ hsw];refine wpAny_bind (wpAny_standAt (wpAny_bind ?_))
 show wpAny _ X.A (do let _<-comprehension (.ListComp elt [⟨tg,iter,ifs,0⟩] scope pos) scope X.env _ (newList []) false (eval iter X.env) (some (assign (.Name y py) X.env))) _ _ s
 refine wpAny_bind (wpAny_mono (wpAny_comprehension_free (use:=some (assign (.Name y py) X.env)) (Q:=λ_ s'=>SP X pins W .next s') rfl hs (ZGE (cs.cells I.ok)) cs.kind cs.names
  (thn (hi pins s σ a.H _ I ⟨a,S,G,hk,rfl,sm,r,(ZJH h0).imp λ_ _ z=>z⟩) λxv s1 h1=>thn h1 λitv s2 h2=> ?_)) (λ_ s' hq=>wpAny_pure (wpAny_pure hq)) λ_ _ e=>e)
 obtain ⟨i0,fp,tn,J,H2,rfl,I2,T,t0,f2,b,d,G1,rfl,x,sb,rJ,_,h1⟩:=h2
 refine ZG6 hc cs hg gk hts he I2 (x.k.trans hk) sb (r.mono x) T t0 f2 rJ h1 (RR:=λacc C=>compPost (model X.prog X.w) X.A X.xe (some (assign (.Name y py) X.env)) (λ_ s'=>SP X pins W .next s') acc C) ?_
 intro D C s' b' vs Ia hD hCle hDC ⟨m,hn⟩ hCn hq;show wpAny _ X.A (assign (.Name y py) X.env (.ref D)) _ _ _;refine wpAny_assign_Name (ZFy Ia hN hy hx (v:=.ref D) rfl (λs'' I'' hch=> ?_) hf);obtain ⟨a',hsb',ha'⟩:=hch;have hCa:C≠a':=by
  rintro rfl;rcases ha' with rfl | ha'
  ·exact absurd (Nat.lt_of_lt_of_le I2.lt hCle) (Nat.lt_irrefl _)
  ·obtain ⟨v,o,e',_⟩:=I2.cell _ _ ha';exact absurd (Nat.lt_of_lt_of_le (Heap.lt_size e') hCle) (Nat.lt_irrefl _)
 refine ⟨m,hn.sameBut hsb' hCa,λh' hsb=>⟨_,_,letGo I2 I'' hCle ?_ hsb,?_⟩⟩
 ·rw [Az (Ne.symm hDC)];exact hCn
 ·obtain ⟨b3,d3,G3,e3,x3,s3,q3,_,h3⟩:=hq;rw [<-e3];exact h3 b3 _ (Ext.refl b3) s3 ((r.mono x3).set i q3)
end
noncomputable def Nv:D->DH->R D
 | .int i,G=>.ok (.int (-i)) G
 | _,_=>.bad
noncomputable def Lq:D->Bool
 | .non=>true
 | _=>false
noncomputable def Tc:D->D->DH->R D
 | d,.non,G=>.ok (.bl (Lq d)) G
 | _,_,_=>.bad
noncomputable def Ln:D->D->DH->R D
 | d,.non,G=>.ok (.bl (!Lq d)) G
 | _,_,_=>.bad
noncomputable def Nb:D->Option V
 | .non=>some .non
 | .bl b=>some (.bl b)
 | .int i=>some (.int i)
 | .str x=>some (.str x)
 | _=>none
noncomputable def Iv:List D->Option (List V)
 | []=>some []
 | d::r=>match Nb d,Iv r with
  | some v,some vs=>some (v::vs)
  | _,_=>none
noncomputable def inD (d e:D) (G:DH):Option Bool:=match e with
 | .str j=>match d with
  | .str i=>some (!(Builtin.Str.occurrences j i 0 j.length 1).isEmpty)
  | _=>none
 | e=>match Bs e G,Nb d with
  | some xs,some v=>(Iv xs).map λvs=>inV v vs
  | _,_=>none
noncomputable def Tr (d e:D) (G:DH):R D:=match inD d e G with
 | some k=>.ok (.bl k) G
 | none=>.bad
section
variable {X:Cx} {E:XK} {a b:Expr} {ta tb:DE} {pos:Pos}
theorem Uz:UnR X (unaryOp .USub) (lR1 X.K E Nv):=λpins s σ H x v Q I rx h=>by
 obtain ⟨a,G,d,hk,rfl,sm,rd,q⟩:=h;cases d with
 | int i=>exact ZKh pins s σ a.H x v Q I rx ⟨i,rd,q a _ (Ext.refl a) sm rfl⟩
 | _=>exact q.elim
theorem Qs {op:UnaryOp} {f:D->DH->R D} (ho:UnR X (unaryOp op) (lR1 X.K E f)) (ha:QE X E a ta):QE X E (.UnaryOp op a pos) (dUn f ta):=(ZSI ho ha).mono λσ H Q h=>by obtain ⟨a,S,G,hk,rfl,s,r,h⟩:=h;refine ⟨a,S,G,hk,rfl,s,r,(Ge h).imp ?_⟩;rintro v _ ⟨b,d,G1,rfl,x,s1,q,-,h1⟩;exact ⟨b,G1,d,x.k.trans hk,rfl,s1,q,h1⟩
theorem Zc {n:String} (hg:Gl X x) (hm:X.mg x=none) (hv:bootBuiltins x=some (.type n)) (hn:x≠"__name__":=by decide) (hd:(x == ("__debug__":Str))=false:=by decide):QE X E (.Name x pos) (dC (.ty n)):=
 (ZNj (v:=.ty n) hg hm hv rfl hn hd).mono λσ H Q h=>Ph h λ_ _=>rfl
theorem ZGK {a:Wd} {x:V} (rd:Rep a d x):decide (x=V.non)=Lq d:=by
 cases d with
 | non=>rw [show x=V.non from rd];rfl
 | bl _=>rw [show x=V.bl _ from rd];rfl
 | int _=>rw [show x=V.int _ from rd];rfl
 | str _=>rw [show x=V.str _ from rd];rfl
 | ty _=>rw [show x=V.ty _ from rd];rfl
 | tup _=>obtain ⟨p,vs,rfl,_⟩:=rd;rfl
 | fl _=>obtain ⟨p,vs,rfl,_⟩:=rd;rfl
 | ref _=>rw [rd.2];rfl
theorem ZDZ:OpR X (compareOp .Is) (lR2 X.K E Tc):=Gy ZQN λa G d e x y Q hk s rd re q=>by
 cases e with
 | non=>exact ⟨re,by rw [ZGK rd];cases d <;> exact q a _ (Ext.refl a) s rfl⟩
 | _=>cases d <;> exact q.elim
theorem P0:OpR X (compareOp .IsNot) (lR2 X.K E Ln):=Gy ZKW λa G d e x y Q hk s rd re q=>by
 cases e with
 | non=>exact ⟨re,by rw [ZGK rd];cases d <;> exact q a _ (Ext.refl a) s rfl⟩
 | _=>cases d <;> exact q.elim
theorem ZGc {a:Wd} {x:V} (r:Rep a d x) (h:Nb d=some v):x=v/\Fb v=true:=by
 cases d <;> first
  | (cases h;exact ⟨r,rfl⟩)
  | cases h
theorem ZF9 {a:Wd}:∀{ds:List D} {xs vs:List V},Reps a ds xs->Iv ds=some vs->xs=vs/\vs.all Fb=true
 | [],xs,vs,r,h=>by cases h;exact ⟨r,rfl⟩
 | d::ds,xs,vs,r,h=>by
  obtain ⟨x,r',rfl,r1,r2⟩:=r;unfold Iv at h;split at h
  ·rename_i v ws h1 h2;cases h;obtain ⟨e1,f1⟩:=ZGc r1 h1;obtain ⟨e2,f2⟩:=ZF9 r2 h2;subst e1;subst e2;exact ⟨rfl,by rw [List.all_cons,f1,f2];rfl⟩
  ·cases h
theorem ZNY {a:Wd} {e:D} {x:V} {k:Bool} (s:Sim a G) (rd:Rep a d x) (re:Rep a e y) (h:inD d e G=some k):
  (∃i j,x=.str i/\y=.str j/\k= !(Builtin.Str.occurrences j i 0 j.length 1).isEmpty)∨(∃p xs,y=.ref p/\(SqL a.K a.H p xs∨SqT a.K a.H p xs)/\Fb x=true/\xs.all Fb=true/\k=inV x xs):=by
 have seq:(match Bs e G,Nb d with | some xs,some v=>(Iv xs).map λvs=>inV v vs | _,_=>none)=some k->(∃p xs,y=.ref p/\(SqL a.K a.H p xs∨SqT a.K a.H p xs)/\Fb x=true/\xs.all Fb=true/\k=inV x xs):=λh=>by
  split at h
  ·rename_i xs v h1 h2;obtain ⟨p,ws,e1,q,r1⟩:=Lj s re h1;obtain ⟨e2,f2⟩:=ZGc rd h2;subst e2;rw [Option.map_eq_some_iff] at h;obtain ⟨us,h3,h4⟩:=h;obtain ⟨e3,f3⟩:=ZF9 r1 h3;subst e3;exact ⟨p,ws,e1,q,f2,f3,h4.symm⟩
  ·cases h
 cases e with
 | str j=>
  cases d with
  | str i=>exact .inl ⟨i,j,rd,re,(Option.some.inj h).symm⟩
  | _=>cases h
 | tup xs=>exact .inr (seq h)
 | fl xs=>exact .inr (seq h)
 | ref i=>exact .inr (seq h)
 | _=>exact .inr (seq h)
theorem o_in:OpR X (compareOp .In) (lR2 X.K E Tr):=Gy (ZRi.or ZLG) λa G d e x y Q hk s rd re q=>by
 unfold Tr at q;split at q
 ·rename_i k h;have z:=q a _ (Ext.refl a) s rfl;rcases ZNY s rd re h with ⟨i,j,e1,e2,rfl⟩ | ⟨p,xs,e1,hq,f1,f2,rfl⟩
  ·exact .inl ⟨i,j,e1,e2,z⟩
  ·exact .inr ⟨p,xs,e1,by rw [<-hk];exact hq,f1,f2,z⟩
 ·exact q.elim
end
theorem ZB2:bootBuiltins "isinstance"=some (.builtin "isinstance"):=by decide +kernel
theorem ZMB:bootBuiltins "all"=some (.builtin "all"):=by decide +kernel
theorem ZJY:bootBuiltins "max"=some (.builtin "max"):=by decide +kernel
theorem Ow:bootBuiltins "min"=some (.builtin "min"):=by decide +kernel
theorem El:bootBuiltins "len"=some (.builtin "len"):=by decide +kernel
theorem ZEb:bootBuiltins "int"=some (.type "int"):=by decide +kernel
theorem ZKX:bootBuiltins "bool"=some (.type "bool"):=by decide +kernel
theorem Hq:bootBuiltins "tuple"=some (.type "tuple"):=by decide +kernel
theorem ZHD:bootBuiltins "list"=some (.type "list"):=by decide +kernel
noncomputable def Mv:NameKind->Bool | .local=>true | _=>false
noncomputable def Ml:NameKind->Bool | .cell=>true | _=>false
noncomputable def Ls:NameKind->Bool | .free=>true | _=>false
noncomputable def isK (p:NameKind->Bool):Option NameKind->Bool | some k=>p k | none=>false
theorem ZLD {k:NameKind} (h:Mv k=true):k=.local:=by cases k <;> first | rfl | cases h
theorem ZOW {k:NameKind} (h:Ml k=true):k=.cell:=by cases k <;> first | rfl | cases h
theorem ZIg {k:NameKind} (h:Ls k=true):k=.free:=by cases k <;> first | rfl | cases h
theorem ZBY {p:NameKind->Bool} {k:NameKind} (hp:∀k',p k'=true->k'=k) {o:Option NameKind} (h:isK p o=true):o=some k:=by
 cases o with
 | none=>cases h
 | some k'=>rw [hp _ h]
noncomputable def ZJI (dn:List (Str×NameKind)) (N0 N:List Str) (names:List (Str×NameKind)) (nt:Nat) (caps:List Nat):Bool:=
 names.all (λy=>(!Mv y.2 || isK Mv (names.lookup y.1)) && !Ml y.2 && (!Ls y.2 || isK Ml (dn.lookup y.1) || isK Ls (dn.lookup y.1))) && decide N.Nodup && decide (N.length=nt + caps.length) &&
 (List.range caps.length).all λk=>match caps[k]? with
  | some j=>match N0[j]? with
   | some x=>decide (N[nt + k]? =some x) && isK Ls (names.lookup x)
   | none=>false
  | none=>true
theorem Fy {X:Cx} {N0 N:List Str} {nt:Nat} {caps:List Nat} {dn:List (Str×NameKind)} (hk:scope.kind=.function:=by rfl) (hdn:∀x,X.env.kindOf x=dn.lookup x:=by intro _;rfl) (hN:X.N=N0:=by rfl)
  (h:ZJI dn N0 N scope.names nt caps=true:=by decide +kernel):CompSc X N scope nt caps:=by
 unfold ZJI at h;rw [Bool.and_eq_true,Bool.and_eq_true,Bool.and_eq_true] at h;obtain ⟨⟨⟨h1,h2⟩,h3⟩,h4⟩:=h;rw [List.all_eq_true] at h1 h4;have key:=λ(y:Str×NameKind) (hy:y∈scope.names)=>(by have:=h1 y hy;rw [Bool.and_eq_true,Bool.and_eq_true] at this;exact this:((!Mv y.2 || isK Mv (scope.names.lookup y.1))=true/\(!Ml y.2)=true)/\(!Ls y.2 || isK Ml (dn.lookup y.1) || isK Ls (dn.lookup y.1))=true)
 refine ⟨hk,λy hy hl=> ?_,λy hy hl=> ?_,λy hy hl=> ?_,of_decide_eq_true h2,of_decide_eq_true h3,λk j hj=> ?_⟩
 ·have:=(key y hy).1.1;rw [hl] at this;exact ZBY (p:=Mv) (λ_ h=>ZLD h) (by have t:(false || isK Mv (scope.names.lookup y.1))=true:=this;simpa using t)
 ·have:=(key y hy).1.2;rw [hl] at this;exact absurd this (by decide)
 ·have:=(key y hy).2;rw [hl,Bool.or_eq_true] at this;rw [hdn];rcases this with h | h
  ·exact .inl (ZBY (p:=Ml) (λ_ h=>ZOW h) (by have t:(false || isK Ml (dn.lookup y.1))=true:=h;simpa using t))
  ·exact .inr (ZBY (p:=Ls) (λ_ h=>ZIg h) h)
 ·have hk':k < caps.length:=(List.getElem?_eq_some_iff.mp hj).1;have:=h4 k (List.mem_range.mpr hk');rw [hj] at this;dsimp only at this;cases e:N0[j]? with
  | none=>rw [e] at this;cases this
  | some x=>
   rw [e] at this;dsimp only at this;rw [Bool.and_eq_true] at this;exact ⟨x,by rw [hN];exact e,of_decide_eq_true this.1,ZBY (p:=Ls) (λ_ h=>ZIg h) this.2⟩
section
section
variable {X:Cx} {pins:List (Addr×Obj)} {σ:St} {H:Hp} {s:Shared}
theorem ZOH {xs:List V} (I:Inv X pins σ H s) (h:H p=some (.lst xs)):∃o,Inv X pins σ (upd H p (.frz o (.lst xs))) s:=by
 obtain ⟨hl,its,n,r,e⟩:=I.hok p _ h;have nt:∀b (u:HO),H b=some u->u≠ .lst xs->b≠p:=λb u q d z=>by subst z;rw [h] at q;exact d (Option.some.inj q).symm
 refine ⟨_,I.un (t':=s.toks) (H':=upd H p (.frz {cls:=.type "list",data:=.seq its.toArray n} (.lst xs))) ⟨λb o q _ _ _=>q,λb o q _ _ _=>⟨o.slots,q⟩,λb o q z _=> ?_,λb o q _=>⟨o,q⟩,λb ys q=> ?_,λb o u q=> ?_,λb ps q=>⟨#[],?_⟩⟩ ?_⟩
 ·rw [Az (λz'=>by subst z';rw [h] at z;cases z)];exact z
 ·rw [Az (nt b _ q (by intro z;cases z))];exact q
 ·rw [Az (nt b _ q (by intro z;cases z))];exact q
 ·rw [Az (nt b _ q (by intro z;cases z)),Array.append_empty];exact q
 ·intro b u q;by_cases hb:b=p
  ·subst hb;rw [Gg] at q;cases q;exact ⟨e,hl,its,n,r,e⟩
  ·rw [Az hb] at q;exact (I.hok b u q).stay (λc v _ z=>z) (λc z=>by rw [Az (nt c _ z (by intro z;cases z))];exact z) λc ys z=>by rw [Az (nt c _ z (by intro z;cases z))];exact z
noncomputable def Fz (P:Addr->Prop) (H H':Hp):Prop:=∀p,(H' p=H p/\(∀vs,H p=some (.lst vs)->¬P p))∨∃o vs,P p/\H p=some (.lst vs)/\H' p=some (.frz o (.lst vs))
theorem ZFi (I:Inv X pins σ H s) (m:Nat->Addr) (n:Nat):∀k:Nat,∃H',Inv X pins σ H' s/\Fz (λp=>∃i,n<=i/\i < n + k/\p=m i) H H'
 | 0=>⟨H,I,λp=>.inl ⟨rfl,λ_ _ ⟨i,h1,h2,_⟩=>by lia⟩⟩
 | k + 1=>by
  obtain ⟨H',I',F⟩:=ZFi I m n k;have keep:(∀vs,H' (m (n + k))≠some (.lst vs))->Fz (λp=>∃i,n<=i/\i < n + (k + 1)/\p=m i) H H':=λno p=>by
   rcases F p with ⟨e,z⟩ | ⟨o,vs,⟨i,h1,h2,h3⟩,e1,e2⟩
   ·refine .inl ⟨e,λvs e1 ⟨i,h1,h2,h3⟩=> ?_⟩;by_cases hi:i < n + k
    ·exact z vs e1 ⟨i,h1,hi,h3⟩
    ·have:i=n + k:=by lia
     subst this;subst h3;exact no vs (e.trans e1)
   ·exact .inr ⟨o,vs,⟨i,h1,by lia,h3⟩,e1,e2⟩
  cases hH:H' (m (n + k)) with
  | none=>exact ⟨H',I',keep λvs z=>by rw [hH] at z;cases z⟩
  | some u=>
   cases u with
   | lst vs=>
    obtain ⟨o,I2⟩:=ZOH I' hH;refine ⟨_,I2,λp=> ?_⟩;by_cases hp:p=m (n + k)
    ·subst hp;rcases F (m (n + k)) with ⟨e,z⟩ | ⟨o',vs',_,e1,e2⟩
     ·exact .inr ⟨o,vs,⟨n + k,by lia,by lia,rfl⟩,e.symm.trans hH,Gg⟩
     ·rw [hH] at e2;cases e2
    ·rcases F p with ⟨e,z⟩ | ⟨o',vs',⟨i,h1,h2,h3⟩,e1,e2⟩
     ·refine .inl ⟨by rw [Az hp];exact e,λvs' e1 ⟨i,h1,h2,h3⟩=> ?_⟩;by_cases hi:i < n + k
      ·exact z vs' e1 ⟨i,h1,hi,h3⟩
      ·have:i=n + k:=by lia
       subst this;exact hp h3
     ·exact .inr ⟨o',vs',⟨i,h1,by lia,h3⟩,e1,by rw [Az hp];exact e2⟩
   | _=>exact ⟨H',I',keep λvs z=>by rw [hH] at z;cases z⟩
end
noncomputable def Lp (f:D->Option D):List D->Option (List D)
 | []=>some []
 | d::r=>match f d,Lp f r with
  | some d',some r'=>some (d'::r')
  | _,_=>none
noncomputable def Ie (G:DH) (n:Nat):Nat->D->Option D
 | 0,_=>none
 | k + 1,d=>if bel n d=true then some d else match d with
  | .ref i=>match G[i]? with
   | some (.lst xs)=>(Lp (Ie G n k) xs).map .fl
   | _=>none
  | .tup xs=>(Lp (Ie G n k) xs).map .tup
  | .fl xs=>(Lp (Ie G n k) xs).map .fl
  | _=>none
open Classical in
noncomputable def freeze (G:DH) (r:R D):R D:=match r with
 | .ok d G'=>if G'.take G.length=G then (match Ie G' G.length 9 d with
   | some d'=>.ok d' G
   | none=>.ok d G') else .ok d G'
 | r=>r
noncomputable def Bx (t:DE):DE:=λS G=>freeze G (t S G)
structure CutF (b c:Wd) (n:Nat):Prop where
 k:c.K=b.K
 n:c.n=n
 m:c.m=b.m
 tup:∀p xs,b.H p=some (.tup xs)->c.H p=some (.tup xs)
 frz:∀p o u,b.H p=some (.frz o u)->c.H p=some (.frz o u)
theorem CutF.sqT {c:Wd} {n:Nat} (x:CutF b c n) {xs:List V} (h:SqT b.K b.H p xs):SqT c.K c.H p xs:=by
 rcases h with (h | ⟨o,h⟩) | h
 ·exact .inl (.inl (x.tup _ _ h))
 ·exact .inl (.inr ⟨o,x.frz _ _ _ h⟩)
 ·exact .inr (by rw [x.k];exact h)
theorem CutF.fzL {c:Wd} {n:Nat} (x:CutF b c n) {xs:List V} (h:FzL b.K b.H p xs):FzL c.K c.H p xs:=by
 rcases h with ⟨o,h⟩ | h
 ·exact .inl ⟨o,x.frz _ _ _ h⟩
 ·exact .inr (by rw [x.k];exact h)
mutual
theorem Rep.Ek {c:Wd} {n:Nat} (x:CutF b c n):∀{d:D} {v:V},Rep b d v->bel n d=true->Rep c d v
 | .non,_,h,_=>h
 | .bl _,_,h,_=>h
 | .int _,_,h,_=>h
 | .str _,_,h,_=>h
 | .ty _,_,h,_=>h
 | .tup ds,v,h,q=>by obtain ⟨p,vs,e,t,r⟩:=h;simp only [DL.bel] at q;exact ⟨p,vs,e,x.sqT t,Reps.Ek x r q⟩
 | .fl ds,v,h,q=>by obtain ⟨p,vs,e,t,r⟩:=h;simp only [DL.bel] at q;exact ⟨p,vs,e,x.fzL t,Reps.Ek x r q⟩
 | .ref i,v,h,q=>by obtain ⟨l,e⟩:=h;simp only [DL.bel] at q;have q':=of_decide_eq_true q;exact ⟨by rw [x.n];exact q',by rw [x.m];exact e⟩
theorem Reps.Ek {c:Wd} {n:Nat} (x:CutF b c n):∀{ds:List D} {vs:List V},Reps b ds vs->bels n ds=true->Reps c ds vs
 | [],_,h,_=>h
 | d::ds,vs,h,q=>by obtain ⟨v,r,e,h1,h2⟩:=h;simp only [DL.bels,Bool.and_eq_true] at q;exact ⟨v,r,e,Rep.Ek x h1 q.1,Reps.Ek x h2 q.2⟩
end
theorem Wn {c:Wd} {f:D->Option D} (hf:∀d d' v,f d=some d'->Rep b d v->Rep c d' v):∀{ds ds':List D} {vs:List V},Lp f ds=some ds'->Reps b ds vs->Reps c ds' vs
 | [],ds',vs,e,h=>by cases e;exact h
 | d::ds,ds',vs,e,h=>by
  obtain ⟨v,r,rfl,h1,h2⟩:=h;unfold Lp at e;split at e
  ·rename_i d' r' e1 e2;cases e;exact ⟨v,r,rfl,hf _ _ _ e1 h1,Wn hf e2 h2⟩
  ·cases e
theorem ZGr {c:Wd} {n:Nat} (s:Sim b G') (x:CutF b c n) (hz:∀i,n<=i->i < b.n->∀vs,b.H (b.m i)=some (.lst vs)->∃o,c.H (b.m i)=some (.frz o (.lst vs))):∀(k:Nat) (d d':D) (v:V),Ie G' n k d=some d'->Rep b d v->Rep c d' v
 | 0,d,d',v,e,h=>by cases e
 | k + 1,d,d',v,e,h=>by
  have ih:=ZGr s x hz k;unfold Ie at e;split at e
  ·rename_i hb;cases e;exact h.Ek x hb
  ·rename_i hb;cases d with
   | ref i=>
    dsimp only at e;split at e
    ·rename_i xs hx;rw [Option.map_eq_some_iff] at e;obtain ⟨ys,e1,rfl⟩:=e;obtain ⟨vs,e2,r2⟩:=s.obj i _ hx;obtain ⟨il,rfl⟩:=h;have hi:n<=i:=by simp only [DL.bel,decide_eq_true_eq] at hb;lia
     obtain ⟨o,e3⟩:=hz i hi il vs e2;exact ⟨_,vs,rfl,.inl ⟨o,e3⟩,Wn ih e1 r2⟩
    ·cases e
   | tup xs=>
    dsimp only at e;rw [Option.map_eq_some_iff] at e;obtain ⟨ys,e1,rfl⟩:=e;obtain ⟨p,vs,rfl,t,r⟩:=h;exact ⟨p,vs,rfl,x.sqT t,Wn ih e1 r⟩
   | fl xs=>
    dsimp only at e;rw [Option.map_eq_some_iff] at e;obtain ⟨ys,e1,rfl⟩:=e;obtain ⟨p,vs,rfl,t,r⟩:=h;exact ⟨p,vs,rfl,x.fzL t,Wn ih e1 r⟩
   | _=>cases e
theorem ZGY {pins:List (Addr×Obj)} {sh:Shared} (s:Sim a G) (hG:G'.take G.length=G) (x:Ext a b) (sb:Sim b G') (I:Inv X pins σ b.H sh):
  ∃c:Wd,Inv X pins σ c.H sh/\Ext a c/\Sim c G/\CutF b c a.n/\∀(k:Nat) (d d':D) (v:V),Ie G' G.length k d=some d'->Rep b d v->Rep c d' v:=by
 have hlen:∀i o,G[i]? =some o->G'[i]? =some o:=λi o e=>by have hi:i < G.length:=(List.getElem?_eq_some_iff.mp e).1;rw [<-hG,List.getElem?_take_of_lt hi] at e;exact e
 obtain ⟨H',I',F⟩:=ZFi I b.m a.n (b.n - a.n);have hbn:a.n + (b.n - a.n)=b.n:=by have:=x.n;lia
 rw [hbn] at F;have ct:∀p (u:HO),(∀vs,u≠ .lst vs)->b.H p=some u->H' p=some u:=λp u nu e=>by
  rcases F p with ⟨e1,_⟩ | ⟨o,vs,_,e1,_⟩
  ·exact e1.trans e
  ·rw [e] at e1;exact absurd (Option.some.inj e1) (nu vs)
 have tabs:∀p,TabOk b.H p->TabOk H' p:=λp t=>t.mono (λp ps e=>ct p _ (by intro _ z;cases z) e) λp o u e=>ct p _ (by intro _ z;cases z) e
 have cc:CutF b ⟨b.K,a.n,b.m,H'⟩ a.n:=⟨rfl,rfl,rfl,λp xs e=>ct p _ (by intro _ z;cases z) e,λp o u e=>ct p _ (by intro _ z;cases z) e⟩;have old:∀i,i < a.n->H' (b.m i)=b.H (b.m i):=λi hi=>by
  rcases F (b.m i) with ⟨e1,_⟩ | ⟨o,vs,⟨j,h1,h2,h3⟩,e1,e2⟩
  ·exact e1
  ·have:=sb.inj i j (Nat.lt_of_lt_of_le hi x.n) h2 h3;lia
 refine ⟨⟨b.K,a.n,b.m,H'⟩,I',⟨x.k,Nat.le_refl _,x.m,λp xs e=>cc.tup p xs (x.tup p xs e),λp o u e=>cc.frz p o u (x.frz p o u e),λp t=>tabs p (x.tab p t)⟩,⟨s.len,λi j hi hj=>sb.inj i j (Nat.lt_of_lt_of_le hi x.n) (Nat.lt_of_lt_of_le hj x.n),λi o e=> ?_,λi hi=> ?_⟩,cc,λk d d' v hd rb=> ?_⟩
 ·show ORep ⟨b.K,a.n,b.m,H'⟩ o (H' (b.m i));rw [old i (s.lt e)];have q:=sb.obj i o (hlen i o e);have lb:=(s.obj i o e).Nj;cases o with
  | lst ds=>obtain ⟨vs,e1,r1⟩:=q;exact ⟨vs,e1,r1.Ek cc lb⟩
  | dct kvs=>obtain ⟨us,e1,k1,r1⟩:=q;exact ⟨us,e1,k1,r1.Ek cc lb⟩
  | ins c fs=>obtain ⟨C,dx,us,n1,e1,k1,r1⟩:=q;exact ⟨C,dx,us,n1,e1,k1,r1.Ek cc lb⟩
  | tab C m=>obtain ⟨c1,P1,e1,t1⟩:=q;exact ⟨c1,P1,e1,tabs _ t1⟩
  | gone=>trivial
 ·show H' (b.m i)≠none;rw [old i hi];exact sb.tr i (Nat.lt_of_lt_of_le hi x.n)
 ·rw [s.len] at hd;refine ZGr sb cc (λi h1 h2 vs e=> ?_) k d d' v hd rb;rcases F (b.m i) with ⟨e1,z⟩ | ⟨o,vs',_,e1,e2⟩
  ·exact absurd ⟨i,h1,h2,rfl⟩ (z vs e)
  ·rw [e] at e1;cases e1;exact ⟨o,e2⟩
theorem ZOn (s:Sim a G) (h:out E a (freeze G r) Q):
  out E a r λv H=>∀(pins:List (Addr×Obj)) (σ:St) (sh:Shared),Inv X pins σ H sh->∃H',Inv X pins σ H' sh/\Q v H':=by
 cases r with
 | err e G'=>exact h
 | bad=>exact h
 | ok d G'=>
  intro b v x sb rb pins σ sh I;unfold freeze at h;dsimp only at h;split at h
  ·rename_i hG;split at h
   ·rename_i d' hd;obtain ⟨c,Ic,xc,sc,cc,hr⟩:=ZGY s hG x sb I;exact ⟨c.H,Ic,h c v xc sc (hr _ _ _ _ hd rb)⟩
   ·exact ⟨_,I,h b v x sb rb⟩
  ·exact ⟨_,I,h b v x sb rb⟩
theorem Df (ha:QE X E e t):QE X E e (Bx t):=λpins s σ H Q I h=>by
 obtain ⟨a,S,G,hk,rfl,sm,r,h⟩:=h;refine thn (ha pins s σ a.H _ I ⟨a,S,G,hk,rfl,sm,r,ZOn (X:=X) sm h⟩) λu s' ⟨v,H',I',rv,q⟩=> ?_
 obtain ⟨H2,I2,q2⟩:=q pins σ s' I';exact ⟨v,H2,I2,rv,q2⟩
theorem Ox {st:Stmt} (ha:QS X E st (sAs t (gV i))):QS X E st (sAs (Bx t) (gV i)):=λpins s σ H W I h=>by
 obtain ⟨a,S,G,hk,rfl,sm,r,h⟩:=h;have h2:Cw E a (sAs t (gV i) S G) {W with nx:=λσ H=>∀(pins:List (Addr×Obj)) (sh:Shared),Inv X pins σ H sh->∃H',Inv X pins σ H' sh/\W.nx σ H'}:=by
  unfold sAs Bx at h;unfold sAs;cases ht:t S G with
  | err e G'=>rw [ht] at h;exact h
  | bad=>rw [ht] at h;exact h
  | ok d G'=>
   rw [ht] at h;intro b σ' x sb rb pins sh I;unfold freeze at h;dsimp only at h;split at h
   ·rename_i hG;split at h
    ·rename_i d' hd;obtain ⟨c,Ic,xc,sc,cc,hr⟩:=ZGY sm hG x sb I;refine ⟨c.H,Ic,h c σ' xc sc ⟨?_,λj e he=> ?_⟩⟩
     ·rw [List.length_set,<-rb.len,List.length_set]
     ·rw [List.getElem?_set] at he;by_cases hij:i=j
      ·subst hij;rw [if_pos rfl] at he;by_cases hl:i < S.length
       ·rw [if_pos hl] at he;have e1:d'=e:=by simpa using he
        subst e1;obtain ⟨v,e2,rv⟩:=rb.get i d (by rw [List.getElem?_set,if_pos rfl,if_pos hl]);exact ⟨v,e2,hr _ _ _ _ hd rv⟩
       ·rw [if_neg hl] at he;cases he
      ·rw [if_neg hij] at he;obtain ⟨v,e2,rv⟩:=rb.get j e (by rw [List.getElem?_set,if_neg hij];exact he);obtain ⟨v',_,rv'⟩:=r.get j e he;exact ⟨v,e2,rv.Ek cc rv'.bel⟩
    ·exact ⟨_,I,h b σ' x sb rb⟩
   ·exact ⟨_,I,h b σ' x sb rb⟩
 refine thn (ha pins s σ a.H _ I ⟨a,S,G,hk,rfl,sm,r,h2⟩) λf s' hf=> ?_
 cases f with
 | next=>
  obtain ⟨σ',H',I',q⟩:=hf;obtain ⟨H2,I2,q2⟩:=q pins s' I';exact ⟨σ',H2,I2,q2⟩
 | brk=>exact hf
 | cont=>exact hf
 | ret u=>exact hf
end
section
variable {S:DSt} {G:DH}
@[simp] theorem ZEi:dV i S G=(match S[i]? with | some (some d)=>.ok d G | _=>.bad):=id rfl
@[simp] theorem ev_C:dC d S G=.ok d G:=id rfl
@[simp] theorem ev_Op {a b:DE}:dOp f a b S G=(a S G).bind λx G1=>(b S G1).bind λy G2=>f x y G2:=id rfl
@[simp] theorem ev_Un {f:D->DH->R D} {a:DE}:dUn f a S G=(a S G).bind f:=id rfl
@[simp] theorem ev_Nil:Ae S G=.ok [] G:=id rfl
@[simp] theorem ZUL {a:DE} {r:DA}:Ab a r S G=(a S G).bind λx G1=>(r S G1).bind λxs G2=>.ok (x::xs) G2:=id rfl
@[simp] theorem ev_Fn {f:List D->DH->R D} {t:DA}:dFn f t S G=(t S G).bind f:=id rfl
@[simp] theorem ZUp:Eu t S G=tidy G (t S G):=id rfl
@[simp] theorem ev_Frz:Bx t S G=freeze G (t S G):=id rfl
@[simp] theorem ev_asB {k:Bool}:asB (.bl k) G=.ok k G:=id rfl
@[simp] theorem ev_Tst:Ax t S G=(t S G).bind asB:=id rfl
@[simp] theorem ev_And {t u:DB}:M3 t u S G=(t S G).bind λk G1=>if k=true then u S G1 else .ok false G1:=id rfl
@[simp] theorem ev_Or {t u:DB}:dOr t u S G=(t S G).bind λk G1=>if k=true then .ok true G1 else u S G1:=id rfl
@[simp] theorem ev_Not {t:DB}:Pa t S G=(t S G).bind λk G1=>.ok (!k) G1:=id rfl
@[simp] theorem ZT7 {u:DE}:Mf t u S G=(t S G).bind λx G1=>(asB x G1).bind λk G2=>if k=true then u S G2 else .ok (.bl false) G2:=id rfl
@[simp] theorem ev_OrV {u:DE}:Vc t u S G=(t S G).bind λx G1=>(asB x G1).bind λk G2=>if k=true then .ok (.bl true) G2 else u S G2:=id rfl
@[simp] theorem ZT8:ZAJ t S G=(t S G).bind λx G1=>(asB x G1).bind λk G2=>.ok (.bl (!k)) G2:=id rfl
@[simp] theorem ev_If {u:DE}:dIf c t u S G=(c S G).bind λk G1=>if k=true then t S G1 else u S G1:=id rfl
@[simp] theorem ZVA {g:D->D->DH->R D} {a b c:DE}:ZAv f g a b c S G=(a S G).bind λx G1=>(b S G1).bind λy G2=>(f x y G2).bind λz G3=>(asB z G3).bind λk G4=>
 if k=true then (c S G4).bind λw G5=>g y w G5 else .ok (.bl false) G4:=id rfl
@[simp] theorem ev_sNx:sNx S G=.nx S G:=id rfl
noncomputable def SR.then (r:SR) (u:DS):SR:=match r with
 | .nx S1 G1=>u S1 G1
 | r=>r
@[simp] theorem Zh {t:DS}:Ah t u S G=(t S G).then u:=id rfl
@[simp] theorem ZBf:(SR.nx S G).then u=u S G:=id rfl
@[simp] theorem ZVC:(SR.rt d G).then u=.rt d G:=id rfl
@[simp] theorem ev_sEx:sEx t S G=(t S G).toS λ_ G1=>.nx S G1:=id rfl
@[simp] theorem ev_sRt:sRt t S G=(t S G).toS λd G1=>.rt d G1:=id rfl
@[simp] theorem ev_sIf {t:DS}:sIf c t u S G=(c S G).toS λk G1=>if k=true then t S G1 else u S G1:=id rfl
@[simp] theorem ev_sAs:sAs t g S G=(t S G).toS λd G1=>(g d S G1).toS λS2 G2=>.nx S2 G2:=id rfl
@[simp] theorem ev_sAu:sAu i t f S G=(match S[i]? with
 | some (some x)=>(t S G).toS λy G1=>(f x y G1).toS λz G2=>.nx (S.set i (some z)) G2
 | _=>.bad):=id rfl
@[simp] theorem ZUy {it:DI} {b:DS}:Dv it g b S G=(it S G).toS λJ G1=>(match J with
 | .pure xs=>Bg g b xs S G1
 | .mt i=>match G1[i]? with
  | some (.lst xs)=>forM i g b xs.length 0 S G1
  | _=>.bad
 | .fn n f=>Ef f g b n 0 S G1):=id rfl
@[simp] theorem ZKJ:Ff t S G=(t S G).bind Hj:=id rfl
@[simp] theorem ZUK {f:List D->DH->R ItD} {t:DA}:Dh f t S G=(t S G).bind f:=id rfl
@[simp] theorem Do:gV i d S G=.ok (S.set i (some d)) G:=id rfl
@[simp] theorem ZBm:Cj [] S G=.ok S G:=id rfl
@[simp] theorem Xc {t:DG} {u:DGs} {r:List D}:Ar t u (d::r) S G=(t d S G).bind λS1 G1=>u r S1 G1:=id rfl
@[simp] theorem Xl {n:Nat} {t:DGs} :Cd n t (.tup ds) S G=if ds.length=n then t ds S G else .bad:=id rfl
@[simp] theorem ev_gIx {o i:DE} {v:D}:gIx o i v S G=(o S G).bind λo G1=>(i S G1).bind λi G2=>(Lb o i v G2).bind λ_ G3=>.ok S G3:=id rfl
@[simp] theorem ev_MtL {f:D->List D->DH->R D} {o:DE} {t:DA}:Fv f o t S G=(o S G).bind λx G1=>if isL x G1=true then (t S G1).bind λxs G2=>f x xs G2 else .bad:=id rfl
@[simp] theorem ZPo {it:DI} {caps:List Nat} :Er it nt caps g c te S G=(it S G).bind λJ G1=>(match J with
 | .pure xs=>Eb g c te (Bf nt caps S) xs G1
 | .mt i=>match G1[i]? with
  | some (.lst xs)=>H8 i g c te (Bf nt caps S) xs.length 0 G1
  | _=>.bad
 | .fn n f=>Dz f g c te (Bf nt caps S) n 0 G1).bind Ao:=id rfl
@[simp] theorem ZOk:Ci S G=.ok true G:=id rfl
@[simp] theorem Dt {k:DSt->DH->SR}:aft (.nx S G) k=k S G:=id rfl
@[simp] theorem ZNR {k:DSt->DH->SR} :aft (.rt d G) k=.rt d G:=id rfl
theorem Ec {b:DS}:Bg g b [] S G=.nx S G:=id rfl
theorem Dk {b:DS} {x:D} :Bg g b (x::xs) S G=(g x S G).toS λS1 G1=>aft (b S1 G1) (Bg g b xs):=id rfl
theorem ZDa {x:D} :Eb g c te S (x::xs) G=(g x S G).bind λS1 G1=>(c S1 G1).bind λk G2=>
   if k=true then (te S1 G2).bind λd G3=>(Eb g c te S xs G3).bind λds G4=>.ok (d::ds) G4 else Eb g c te S xs G2:=id rfl
noncomputable def SR.ret (r:SR):R D:=match r with
 | .nx _ G'=>.ok .non G'
 | .rt d G'=>.ok d G'
 | .err x G'=>.err x G'
 | _=>.bad
@[simp] theorem ZP4:(SR.nx S G).ret=.ok .non G:=id rfl
@[simp] theorem ret_rt:(SR.rt d G).ret=.ok d G:=id rfl
theorem Be {np nl:Nat} {b:DS} :Bq np nl b ds G=if ds.length=np then tidy G (b (ds.map some++List.replicate nl none) G).ret else .bad:=id rfl
end
section
variable {n:Nat} {G:DH}
@[simp] theorem ZUU:bel n .non=true:=by simp [DL.bel]
@[simp] theorem bel_bl {b:Bool}:bel n (.bl b)=true:=by simp [DL.bel]
@[simp] theorem ZQz {b:Int}:bel n (.int b)=true:=by simp [DL.bel]
@[simp] theorem ZUs {b:Str}:bel n (.str b)=true:=by simp [DL.bel]
@[simp] theorem ZVF {b:List D}:bel n (.tup b)=bels n b:=by simp [DL.bel]
@[simp] theorem bel_fl {b:List D}:bel n (.fl b)=bels n b:=by simp [DL.bel]
@[simp] theorem ZUh {b:Nat}:bel n (.ref b)=decide (b < n):=by simp [DL.bel]
@[simp] theorem ZUE:bels n []=true:=by simp [DL.bels]
@[simp] theorem ZQI:bels n (d::ds)=(bel n d && bels n ds):=by simp [DL.bels]
theorem ZLE:bels n ds=true↔∀d∈ds,bel n d=true:=by
 induction ds with
 | nil=>simp
 | cons d ds ih=>simp [ih]
theorem Gm {f:α->D} {xs:List α} (h:∀x∈xs,bel n (f x)=true):bels n (xs.map f)=true:=by rw [ZLE];intro d hd;obtain ⟨x,hx,rfl⟩:=List.mem_map.mp hd;exact h x hx
@[simp] theorem ZGe {xs:List Int}:bels n (xs.map D.int)=true:=Gm λ_ _=>ZQz
theorem Bd (h:bel G.length d=true):tidy G (.ok d G)=.ok d G:=by unfold tidy;simp [h]
theorem O4 (h:bel G.length d=true):tidy G (.ok d (G++L))=.ok d G:=by unfold tidy;simp [h]
theorem ZC3 (L:DH) (hk:L[k]? =some (.lst ds)) (h:bels G.length ds=true):tidy G (.ok (.ref (G.length + k)) (G++L))=.ok (.ref G.length) (G++ [.lst ds]):=by
 unfold tidy;have e:(G++L)[G.length + k]? =some (.lst ds):=by rw [List.getElem?_append_right (by lia)];simpa using hk
 simp [e,Nj,h]
theorem Es (h:bels G.length ds=true):tidy G (.ok (.ref G.length) (G++ .lst ds::L))=.ok (.ref G.length) (G++ [.lst ds]):=ZC3 (.lst ds::L) (k:=0) rfl h
theorem Nr (h:bel G.length d=true):freeze G (.ok d G)=.ok d G:=by unfold freeze;simp [h,Ie]
theorem ZJj {n:Nat} :∀{ds:List D},bels n ds=true->Lp (Ie G' n (k + 1)) ds=some ds
 | [],_=>rfl
 | d::ds,h=>by simp only [ZQI,Bool.and_eq_true] at h;unfold Lp;rw [ZJj h.2];simp [Ie,h.1]
theorem ZMT (L:DH) (hk:L[k]? =some (.lst ds)) (h:bels G.length ds=true):freeze G (.ok (.ref (G.length + k)) (G++L))=.ok (.fl ds) G:=by
 unfold freeze;have e:(G++L)[G.length + k]? =some (.lst ds):=by rw [List.getElem?_append_right (by lia)];simpa using hk
 have m:Ie (G++L) G.length 9 (.ref (G.length + k))=some (.fl ds):=by unfold Ie;simp [e,ZJj h]
 simp [m]
theorem Gn (h:bels G.length ds=true):freeze G (.ok (.ref G.length) (G++ .lst ds::L))=.ok (.fl ds) G:=ZMT (.lst ds::L) (k:=0) rfl h
theorem ZAS (L:DH) (k:Nat):(G++L)[G.length + k]? =L[k]? :=by rw [List.getElem?_append_right (by lia)];simp
theorem Di (L:DH):(G++L)[G.length]? =L[0]? :=ZAS L 0
theorem ZET (L:DH) (k:Nat) (o:DO):(G++L).set (G.length + k) o=G++L.set k o:=by rw [List.set_append_right _ _ (by lia)];simp
theorem Eg (L:DH) (o:DO):(G++L).set G.length o=G++L.set 0 o:=ZET L 0 o
theorem Ob {lo:Int}:Cg lo 0= []:=id rfl
theorem Kp {lo:Int} {n:Nat}:Cg lo (n + 1)=.int lo::Cg (lo + 1) n:=by
 unfold Cg;rw [List.range_succ_eq_map,List.map_cons,List.map_map]
 congr 1
 ·simp
 ·apply List.map_congr_left;intro k _;simp only [Function.comp]
  congr 1
  lia
end
section
variable {G:DH} {i j:Int} {x y:Str} {k l:Bool}
@[simp] theorem ev_add:Ay (.int i) (.int j) G=.ok (.int (i + j)) G:=id rfl
@[simp] theorem ZT3:Ay (.str x) (.str y) G=if x.length + y.length<=1000000 then .ok (.str (x++y)) G else .bad:=id rfl
@[simp] theorem ev_ip:M8 (.int i) (.int j) G=.ok (.int (i + j)) G:=id rfl
@[simp] theorem ev_sub:Em (.int i) (.int j) G=.ok (.int (i - j)) G:=id rfl
theorem log2_small {n:Nat} (h:n < 10 ^ 100):n.log2 < 9000:=by
 by_cases hn:n=0
 ·subst hn;decide
 ·rw [Nat.log2_lt hn];exact Nat.lt_trans h (by decide)
@[simp] theorem ZUu {n:Nat} [NeZero n] (h:n < 10 ^ 100):De (.int i) (.int (no_index (OfNat.ofNat n))) G=.ok (.int (i / OfNat.ofNat n)) G:=
 if_pos ⟨Int.ofNat_lt.mpr (Nat.pos_of_ne_zero (NeZero.ne n)),log2_small h⟩
@[simp] theorem ev_mod:Bj (.int i) (.int j) G=if 0 < j then .ok (.int (i % j)) G else .bad:=id rfl
@[simp] theorem ev_pow:Jh (.int i) (.int j) G=if 0<=j/\j<=1000000/\i.natAbs < 18446744073709551616 then .ok (.int (i ^ j.toNat)) G else .bad:=id rfl
@[simp] theorem ev_lt:Ih (.int i) (.int j) G=.ok (.bl (decide (i < j))) G:=id rfl
@[simp] theorem ev_le:ZBr (.int i) (.int j) G=.ok (.bl (decide (i<=j))) G:=id rfl
@[simp] theorem ev_gt:Kf (.int i) (.int j) G=.ok (.bl (decide (j < i))) G:=id rfl
@[simp] theorem ev_ge:ZBH (.int i) (.int j) G=.ok (.bl (decide (j<=i))) G:=id rfl
@[simp] theorem ev_eq:Dc (.int i) (.int j) G=.ok (.bl (decide (i=j))) G:=id rfl
@[simp] theorem ev_ne:J0 (.int i) (.int j) G=.ok (.bl (!decide (i=j))) G:=id rfl
@[simp] theorem ev_eqS:Dc (.str x) (.str y) G=.ok (.bl (decide (x=y))) G:=id rfl
@[simp] theorem ev_neS:J0 (.str x) (.str y) G=.ok (.bl (!decide (x=y))) G:=id rfl
@[simp] theorem ev_neg:Nv (.int i) G=.ok (.int (-i)) G:=id rfl
@[simp] theorem ev_is:Tc d .non G=.ok (.bl (Lq d)) G:=by cases d <;> exact id rfl
@[simp] theorem ZUv:Ln d .non G=.ok (.bl (!Lq d)) G:=by cases d <;> exact id rfl
@[simp] theorem ZUB:Lq .non=true:=id rfl
@[simp] theorem ZT2:Lq (.int i)=false:=id rfl
@[simp] theorem ZUx:Lq (.tup ds)=false:=id rfl
@[simp] theorem ev_max:ZBd [.int i,.int j] G=.ok (.int (max i j)) G:=by
 show R.ok (D.int (if j > i then j else i)) G=_
 congr 2
 split <;> lia
@[simp] theorem ev_min:Lf [.int i,.int j] G=.ok (.int (min i j)) G:=by
 show R.ok (D.int (if j < i then j else i)) G=_
 congr 2
 split <;> lia
@[simp] theorem ZVB:U7 [.bl k] G=.ok (.int (if k then 1 else 0)) G:=id rfl
@[simp] theorem ZVH:Bs (.tup ds) G=some ds:=id rfl
@[simp] theorem ZUC:Bs (.fl ds) G=some ds:=id rfl
@[simp] theorem ZJU {n:Nat}:Bs (.ref n) G=(match G[n]? with | some (.lst xs)=>some xs | _=>none):=id rfl
@[simp] theorem ZUd:Du [.tup ds] G=.ok (.int ds.length) G:=id rfl
@[simp] theorem ZVE:Du [.fl ds] G=.ok (.int ds.length) G:=id rfl
@[simp] theorem ev_ixT:Ai (.tup ds) (.int i) G=(match atI ds i with | some v=>.ok v G | none=>.bad):=id rfl
@[simp] theorem ev_ixF:Ai (.fl ds) (.int i) G=(match atI ds i with | some v=>.ok v G | none=>.bad):=id rfl
@[simp] theorem ev_ixR {n:Nat}:Ai (.ref n) (.int i) G=(match G[n]? with | some (.lst xs)=>(match atI xs i with | some v=>.ok v G | none=>.bad) | _=>.bad):=by
 unfold Ai;simp only [ZJU];cases G[n]? with
 | none=>rfl
 | some o=>cases o <;> rfl
theorem Jd {n k:Nat} (h:k < n):ixN n (k:Int)=some k:=by unfold ixN;rw [if_pos (by lia),if_pos (by lia)];simp
theorem ZKB {xs:List α} {k:Nat} {d:α} (h:xs[k]? =some d):atI xs (k:Int)=some d:=by unfold atI;rw [Jd (List.getElem?_eq_some_iff.mp h).1];exact h
theorem Ex {xs:List α} {j:Int} {k:Nat} {d:α} (e:j=k) (h:xs[k]? =some d):atI xs j=some d:=by subst e;exact ZKB h
theorem ZKr {xs:List α} {j:Int} (h0:j < 0) (h: -(xs.length:Int)<=j):atI xs j=some (xs[(j + xs.length).toNat]'(by lia)):=by unfold atI ixN;rw [if_neg (by lia),if_pos h];exact List.getElem?_eq_getElem (by lia)
@[simp] theorem atI_0 {a:α} {xs:List α}:atI (a::xs) 0=some a:=Ex (k:=0) rfl rfl
@[simp] theorem atI_1 {a b:α} {xs:List α}:atI (a::b::xs) 1=some b:=Ex (k:=1) rfl rfl
@[simp] theorem atI_2 {a b c:α} {xs:List α}:atI (a::b::c::xs) 2=some c:=Ex (k:=2) rfl rfl
@[simp] theorem atI_3 {a b c d:α} {xs:List α}:atI (a::b::c::d::xs) 3=some d:=Ex (k:=3) rfl rfl
@[simp] theorem atI_4 {a b c d e:α} {xs:List α}:atI (a::b::c::d::e::xs) 4=some e:=Ex (k:=4) rfl rfl
@[simp] theorem atI_5 {a b c d e f:α} {xs:List α}:atI (a::b::c::d::e::f::xs) 5=some f:=Ex (k:=5) rfl rfl
@[simp] theorem atI_6 {a b c d e f g:α} {xs:List α}:atI (a::b::c::d::e::f::g::xs) 6=some g:=Ex (k:=6) rfl rfl
@[simp] theorem ZUJ:Bo ds G=if ds.length<=1000000 then .ok (.tup ds) G else .bad:=id rfl
@[simp] theorem ZVJ:Ao ds G=if ds.length<=1000000 then .ok (.ref G.length) (G++ [.lst ds]) else .bad:=id rfl
@[simp] theorem ZUo:Gp [.fl ds] G=.ok (.tup ds) G:=id rfl
@[simp] theorem ZUa {n:Nat}:Gp [.ref n] G=(match G[n]? with | some (.lst xs)=>.ok (.tup xs) G | _=>.bad):=by
 unfold Gp;simp only [ZJU];cases G[n]? with
 | none=>rfl
 | some o=>cases o <;> rfl
@[simp] theorem ev_itT:Hj (.tup ds) G=.ok (.pure ds) G:=id rfl
@[simp] theorem ev_itF:Hj (.fl ds) G=.ok (.pure ds) G:=id rfl
@[simp] theorem ZT4:rng1 [.int j] G=if inR j then .ok (.pure (Cg 0 j.toNat)) G else .bad:=id rfl
theorem Gr (h0: -1000000000<=i) (h:i<=1000000000):inR i:=⟨by lia,by lia⟩
@[simp] theorem ZUg:isL (.fl ds) G=true:=id rfl
@[simp] theorem ZUi {n:Nat}:isL (.ref n) G=(match G[n]? with | some (.lst _)=>true | _=>false):=id rfl
@[simp] theorem ev_app {n:Nat} :Fq (.ref n) [d] G=(match G[n]? with | some (.lst xs)=>if xs.length < 1000000 then .ok .non (G.set n (.lst (xs++ [d]))) else .bad | _=>.bad):=id rfl
@[simp] theorem ZUS {n:Nat} :Lb (.ref n) (.int i) d G=(match G[n]? with | some (.lst xs)=>(match ixN xs.length i with | some j=>.ok .non (G.set n (.lst (xs.set j d))) | none=>.bad) | _=>.bad):=id rfl
@[simp] theorem ZKd {ks:List Bool}:Sd [.fl (ks.map D.bl)] G=.ok (.bl (ks.all id)) G:=by simp [Sd]
@[simp] theorem ZUk:Ij [d,.ty "int"] G=(match tyD G d with | some .int=>.ok (.bl true) G | some .bl=>.ok (.bl true) G | some _=>.ok (.bl false) G | none=>.bad):=by
 unfold Ij;dsimp only;cases tyD G d with
 | none=>rfl
 | some t=>cases t <;> rfl
@[simp] theorem ZUc:Ij [d,.ty "bool"] G=(match tyD G d with | some .bl=>.ok (.bl true) G | some _=>.ok (.bl false) G | none=>.bad):=by
 unfold Ij;dsimp only;cases tyD G d with
 | none=>rfl
 | some t=>cases t <;> rfl
@[simp] theorem ZUm:Ij [d,.ty "tuple"] G=(match tyD G d with | some .tup=>.ok (.bl true) G | some _=>.ok (.bl false) G | none=>.bad):=by
 unfold Ij;dsimp only;cases tyD G d with
 | none=>rfl
 | some t=>cases t <;> rfl
@[simp] theorem ZUY:tyD G (.int i)=some .int:=id rfl
@[simp] theorem ZVD:tyD G (.tup ds)=some .tup:=id rfl
end
section
variable {c:Prop} [Decidable c]
@[simp] theorem ite_ok {a b:α} :(if c then R.ok a G else R.ok b G)=R.ok (if c then a else b) G:=by split <;> rfl
end
noncomputable def Gq:D->Option Key
 | .int i=>some (.inl i)
 | .str x=>some (.inr x)
 | _=>none
section
variable {X:Cx} {E:XK}
end
section
variable {S:DSt} {G:DH} {n:Nat} {kvs:List (Key×D)}
end
noncomputable def cutD {α:Type} (xs:List α) (lo hi:Option Int):List α:=(xs.drop (HT.sIx xs.length 0 lo)).take (HT.sIx xs.length xs.length hi - HT.sIx xs.length 0 lo)
noncomputable def R1 (z:Str) (lo hi:Option Int):Str:=⟨(cutD z.cps.toList lo hi).toArray⟩
theorem ZMv (xs:List α) (lo hi:Option Int):(cutD xs lo hi).length<=xs.length:=by unfold cutD;rw [List.length_take,List.length_drop];lia
noncomputable def Ol (t:Option DE) (S:DSt) (G:DH):R (Option Int):=match t with
 | none=>.ok none G
 | some t=>(t S G).bind λd G1=>match d with
  | .int i=>.ok (some i) G1
  | _=>.bad
noncomputable def ZE5 (d:D) (lo hi:Option Int) (G:DH):R D:=match d with
 | .str z=>if z.length<=1000000 then .ok (.str (R1 z lo hi)) G else .bad
 | .tup xs=>.ok (.tup (cutD xs lo hi)) G
 | d=>match Ho d G with
  | some xs=>.ok (.ref G.length) (G++ [.lst (cutD xs lo hi)])
  | none=>.bad
noncomputable def dSl (e:DE) (lo hi:Option DE):DE:=λS G=>(e S G).bind λd G1=>(Ol lo S G1).bind λl G2=>(Ol hi S G2).bind λh G3=>ZE5 d l h G3
theorem Xv (n:Nat) (v:Int):((HT.sIx n n (some v):Nat):Int)=max 0 (min (if v < 0 then v + (n:Int) else v) n)/\((HT.sIx n 0 (some v):Nat):Int)=max 0 (min (if v < 0 then v + (n:Int) else v) n):=by
 unfold HT.sIx;by_cases hv:v < 0
 ·simp only [if_pos hv];lia
 ·simp only [if_neg hv];lia
theorem ZM8 (xs:Array Nat) (i k:Nat):(List.range k).filterMap (λm=>xs[i + m]?)=(xs.toList.drop i).take k:=by
 induction k generalizing i with
 | zero=>simp
 | succ k ih=>
  rw [List.range_succ_eq_map,List.filterMap_cons];have e:(List.map Nat.succ (List.range k)).filterMap (λm=>xs[i + m]?)=(List.range k).filterMap (λm=>xs[i + 1 + m]?):=by
   rw [List.filterMap_map]
   congr 1
   funext m;simp only [Function.comp]
   congr 1
   lia
  rw [e,ih (i + 1)];by_cases hi:i < xs.size
  ·have h1:xs[i + 0]? =some xs[i]:=by simp [hi]
   rw [h1];have h2:xs.toList.drop i=xs[i]::xs.toList.drop (i + 1):=by rw [List.drop_eq_getElem_cons (by simpa using hi)];simp
   rw [h2];simp
  ·have h1:xs[i + 0]? =none:=by simp;lia
   rw [h1];simp only;rw [List.drop_of_length_le (by simp;lia),List.drop_of_length_le (by simp;lia)];simp
theorem ZKx (x:Str) (lo hi:Option Int):Txt.slice x lo hi=R1 x lo hi:=by
 have hlen:x.length=x.cps.toList.length:=by simp [Str.length]
 have key:(Builtin.Str.strSliceIndices lo hi 1 x.length).filterMap (x.cps[·]?)=cutD x.cps.toList lo hi:=by
  have e1:∀(v:Option Int),(match v with | none=>(0:Int) | some i=>max 0 (min (if i < 0 then i + (x.length:Int) else i) x.length))=((HT.sIx x.length 0 v:Nat):Int):=λv=>by
   cases v with
   | none=>rfl
   | some i=>exact (Xv x.length i).2.symm
  have e2:∀(v:Option Int),(match v with | none=>(x.length:Int) | some i=>max 0 (min (if i < 0 then i + (x.length:Int) else i) x.length))=((HT.sIx x.length x.length v:Nat):Int):=λv=>by
   cases v with
   | none=>rfl
   | some i=>exact (Xv x.length i).1.symm
  have e3:Builtin.Str.strSliceIndices lo hi 1 x.length=sliceRange ((HT.sIx x.length 0 lo:Nat):Int) ((HT.sIx x.length x.length hi:Nat):Int) 1:=by
   rw [<-e1 lo,<-e2 hi];unfold Builtin.Str.strSliceIndices
   cases lo <;> cases hi <;> simp
  rw [e3];unfold sliceRange cutD;rw [List.filterMap_map,<-hlen];generalize HT.sIx x.length 0 lo=i;generalize HT.sIx x.length x.length hi=j;have e4:((λa=>x.cps[a]?) ∘ λ(k:Nat)=>((i:Int) + 1 * (k:Int)).toNat)=λk=>x.cps[i + k]? :=by
   funext k;simp only [Function.comp]
   congr 1
   lia
  have e5:(if (1:Int) > 0 then if (i:Int) < (j:Int) then ((j:Int) - i + 1 - 1) / 1 else 0 else if (i:Int) > (j:Int) then ((i:Int) - j - 1 - 1) / -1 else 0).toNat=j - i:=by
   rw [if_pos (by lia)];split
   ·rw [Int.ediv_one];lia
   ·lia
  rw [e4,e5];exact ZM8 x.cps i (j - i)
 unfold Txt.slice R1;split
 ·rename_i h;have h':(Builtin.Str.strSliceIndices lo hi 1 x.length).length=x.length:=by simpa using h
  have hsz:(cutD x.cps.toList lo hi).length=x.cps.toList.length∨(cutD x.cps.toList lo hi).length < x.cps.toList.length:=by have:=ZMv x.cps.toList lo hi;lia
  have hall:(cutD x.cps.toList lo hi).length=x.cps.toList.length:=by
   have e3:(Builtin.Str.strSliceIndices lo hi 1 x.length).length=HT.sIx x.length x.length hi - HT.sIx x.length 0 lo:=by
    have e1:∀(v:Option Int),(match v with | none=>(0:Int) | some i=>max 0 (min (if i < 0 then i + (x.length:Int) else i) x.length))=((HT.sIx x.length 0 v:Nat):Int):=λv=>by
     cases v with
     | none=>rfl
     | some i=>exact (Xv x.length i).2.symm
    have e2:∀(v:Option Int),(match v with | none=>(x.length:Int) | some i=>max 0 (min (if i < 0 then i + (x.length:Int) else i) x.length))=((HT.sIx x.length x.length v:Nat):Int):=λv=>by
     cases v with
     | none=>rfl
     | some i=>exact (Xv x.length i).1.symm
    have e3:Builtin.Str.strSliceIndices lo hi 1 x.length=sliceRange ((HT.sIx x.length 0 lo:Nat):Int) ((HT.sIx x.length x.length hi:Nat):Int) 1:=by
     rw [<-e1 lo,<-e2 hi];unfold Builtin.Str.strSliceIndices
     cases lo <;> cases hi <;> simp
    rw [e3];unfold sliceRange;rw [List.length_map,List.length_range];generalize HT.sIx x.length 0 lo=i;generalize HT.sIx x.length x.length hi=j;rw [if_pos (by lia)];split
    ·rw [Int.ediv_one];lia
    ·lia
   have hj:HT.sIx x.length x.length hi<=x.length:=HT.ZHK _ _ (Nat.le_refl _) hi;unfold cutD;rw [List.length_take,List.length_drop,<-hlen];lia
  have hs:(cutD x.cps.toList lo hi).Sublist x.cps.toList:=(List.take_sublist _ _).trans (List.drop_sublist _ _);rw [hs.eq_of_length hall]
 ·rw [key]
section
variable {X:Cx} {E:XK}
theorem ZQv:SlR X (λx lo hi H Q=>∃z:Str,x=.str z/\z.length<=sizeLine/\Q (.str (R1 z lo hi)) H):=by
 intro pins s σ H x v vl vu lo hi sl Q I rx hs pl pu h;obtain ⟨z,rfl,hz,q⟩:=h;obtain ⟨t,rfl⟩:=rx;refine ⟨"str",_,PySem.F.slot_str_getitem.lookup,typeIs_str _ _ _,?_⟩
 have fin:∀(l u:Option (Int×Tok)),vl=partValue l->vu=partValue u->l.map (·.1)=lo->u.map (·.1)=hi->wpAny (model X.prog X.w) X.A (getItem (.str z t) (.ref sl)) (EP X pins σ Q) X.xe s:=by
  rintro l u rfl rfl rfl rfl
  refine wpAny_getItem_str_slice (l:=l) (u:=u) (st:=none) (show s.heap.IsSlice sl l u none from hs) rfl ?_
  have e:∀Q',(Txt.slice z (l.map (·.1)) (u.map (·.1))).length<=sizeLine/\(∀t' k,Q' (.str (Txt.slice z (l.map (·.1)) (u.map (·.1))) t') {s with toks:=k})->(sliceMade z t l u none).post Q' s:=λQ' hq=>post_val_or_str hq
  refine e _ ⟨Nat.le_trans (Txt.slice_le z _ _) hz,λt' k=> ?_⟩;rw [ZKx];exact ⟨.str _,H,I.tok k,⟨t',rfl⟩,q⟩
 cases pl with
 | none=>cases pu with
  | none=>exact fin none none rfl rfl rfl rfl
  | int j tj=>exact fin none (some (j,tj)) rfl rfl rfl rfl
 | int i ti=>cases pu with
  | none=>exact fin (some (i,ti)) none rfl rfl rfl rfl
  | int j tj=>exact fin (some (i,ti)) (some (j,tj)) rfl rfl rfl rfl
theorem ZM4 {prog:Program} {E:Value->Shared->Prop} {t sl:Addr} {items:Array Value} {vl vu:Value} {lo hi:Option Int} {Q:Value->Shared->Prop} (ht:IsTup s.heap t items) (hs:s.heap.IsSliceOf sl vl vu .none) (pl:IsPart vl lo) (pu:IsPart vu hi)
  (hw:HT.sIx items.size 0 lo=0/\HT.sIx items.size items.size hi=items.size) (h:Q (.ref t) s):wpAny (model prog w) A (getItem (.ref t) (.ref sl)) Q E s:=by
 obtain ⟨os,hos,hcs,hds⟩:=id hs;have hTs:s.TypeIs (.ref sl) "slice":=⟨os,hos,hcs⟩;unfold getItem
 try with_reducible refine wpAny_holding ?_
 first | refine wpAny_bind (wpAny_pure ?_) | skip
 refine wpAny_bind (wpAny_sequenceKey ht.typeIs (by decide) ?_);refine wpAny_bind (wpAny_callSpecial?_slot (name:=Str.ofString "__getitem__") ht.typeIs PyProof.Rows.slot_tuple_getitem
  (wpAny_call_entry PyProof.Rows.slot_tuple_getitem ht.typeIs entry_tuple_getitem ?_ (args_tuple_getitem _ _)))
 show wpAny _ _ (Builtin.Tuple.tupleItemsOf (.ref t) >>=_) _ _ s;refine wpAny_bind (tupleItemsOf_ ht ?_);refine wpAny_bind (wpAny_typeOf hTs ?_);rw [if_pos (by decide)];refine wpAny_bind (HT.ZJx hs pl pu ?_);have hyes:(((HT.sIx items.size 0 lo:Nat):Int) == 0 && (1:Int) == 1 && (HT.sIx items.size items.size hi - HT.sIx items.size 0 lo) == items.size)=true:=by rw [hw.1,hw.2];simp
 show wpAny _ _ (if (((HT.sIx items.size 0 lo:Nat):Int) == 0 && (1:Int) == 1 && (HT.sIx items.size items.size hi - HT.sIx items.size 0 lo) == items.size)=true then _ else _) _ _ s;rw [if_pos hyes];refine wpAny_bind ?_;unfold Builtin.Tuple.tupleIsExact;refine wpAny_bind (wpAny_typeOf ht.typeIs (wpAny_pure ?_));rw [if_pos (by decide)];exact wpAny_bind (wpAny_rule (wpAny_pure ⟨_,rfl,wpAny_pure h⟩))
theorem ZMx:SlR X (λx lo hi H Q=>∃a xs,x=.ref a/\SqT X.K H a xs/\(HT.sIx xs.length 0 lo=0/\HT.sIx xs.length xs.length hi=xs.length)/\Q (.ref a) H):=by
 intro pins s σ H x v vl vu lo hi sl Q I rx hs pl pu h;obtain ⟨a,xs,rfl,hx,hw,q⟩:=h;cases rx;obtain ⟨its,r,ht,hz⟩:=I.tuple hx;have hlen:its.toArray.size=xs.length:=by rw [List.size_toArray];exact r.length.symm
 exact ⟨"tuple",_,PyProof.Rows.slot_tuple_getitem.lookup,ht.typeIs,ZM4 ht hs pl pu (by rw [hlen];exact hw) ⟨.ref a,H,I,rfl,q⟩⟩
noncomputable def Qm (E:XK) (a:Wd) (r:R (Option Int)) (Q:Option Int->Hp->Prop):Prop:=match r with
 | .ok k G=>∀(b:Wd),Ext a b->Sim b G->Q k b.H
 | .err x G=>XOk E a x G
 | .bad=>False
noncomputable def QO (X:Cx) (E:XK) (e:Option Expr) (t:Option DE):Prop:=PO X e (λσ H Q=>∃(a:Wd) (S:DSt) (G:DH),a.K=X.K/\a.H=H/\Sim a G/\RepS a S σ/\Qm E a (Ol t S G) Q)
theorem _root_.L2.PO.mono {e:Option Expr} {t t':TO} (h:PO X e t) (w:∀σ H Q,t' σ H Q->t σ H Q):PO X e t':=λpins s σ H Q I q=>h pins s σ H Q I (w σ H Q q)
theorem ZOj:QO X E none none:=ZR0.mono λσ H Q h=>by obtain ⟨a,S,G,hk,rfl,s,r,h⟩:=h;exact h a (Ext.refl a) s
theorem ZKl (he:QE X E e t):QO X E (some e) (some t):=(ZKC he).mono λσ H Q h=>by
 obtain ⟨a,S,G,hk,rfl,s,r,h⟩:=h;refine ⟨a,S,G,hk,rfl,s,r,?_⟩
 have h':Qm E a ((t S G).bind λd G1=>match d with | .int i=>.ok (some i) G1 | _=>.bad) Q:=h
 cases ht:t S G with
 | ok d G1=>
  rw [ht] at h';intro b v x sb rv;cases d with
  | int i=>exact ⟨i,rv,h' b x sb⟩
  | _=>exact h'.elim
 | err x G1=>rw [ht] at h';exact h'
 | bad=>rw [ht] at h';exact h'
theorem Reps.cutD (r:Reps a ds vs) (lo hi:Option Int):Reps a (DL.cutD ds lo hi) (Lw vs lo hi):=by unfold DL.cutD Lw;rw [r.length];exact (r.drop _).take _
theorem Qm.imp {r:R (Option Int)} {Q Q':Option Int->Hp->Prop} (h:Qm E a r Q) (w:∀v H,Q v H->Q' v H):Qm E a r Q':=by
 cases r with
 | ok d G=>exact λb x s=>w _ _ (h b x s)
 | err e G=>exact h
 | bad=>exact h
theorem ZHi {r:R (Option Int)} {f:Option Int->DH->R D} (h:out E a (r.bind f) Q):
  Qm E a r (λk H=>∃(b:Wd) (G:DH),b.H=H/\Ext a b/\Sim b G/\r=.ok k G/\out E b (f k G) Q):=by
 cases r with
 | ok d G=>exact λb x s=>⟨b,G,rfl,x,s,rfl,out.mono x h⟩
 | err e G=>exact h
 | bad=>exact h
theorem ZMd {lo hi:Option Expr} {tl th:Option DE} {p2 pos:Pos} (he:QE X E e te) (hl:QO X E lo tl) (hu:QO X E hi th):QE X E (.Subscript e (.Slice lo hi none p2) pos) (dSl te tl th):=
 (ZO1 (ZRD.or (ZOe.or (ZMx.or ZQv))) he hl hu).mono λσ H Q h=>by
 obtain ⟨a,S,G,hk,rfl,s,r,h⟩:=h;refine ⟨a,S,G,hk,rfl,s,r,(Ge h).imp ?_⟩;rintro v _ ⟨b,d,G1,rfl,x,s1,q,_,h1⟩;refine ⟨b,S,G1,x.k.trans hk,rfl,s1,r.mono x,(ZHi h1).imp ?_⟩;rintro l _ ⟨c,G2,rfl,y,s2,_,h2⟩;refine ⟨c,S,G2,y.k.trans (x.k.trans hk),rfl,s2,(r.mono x).mono y,(ZHi h2).imp ?_⟩;rintro u _ ⟨c3,G3,rfl,y3,s3,_,h3⟩;have hk3:=y3.k.trans (y.k.trans (x.k.trans hk));have q3:=(q.mono y).mono y3
 have lst:out E c3 (match Ho d G3 with | some xs=>.ok (.ref G3.length) (G3++ [.lst (cutD xs l u)]) | none=>.bad) Q->rSlL X.K v l u c3.H Q:=λh3=>by
  split at h3
  ·rename_i xs hx;obtain ⟨p,vs,e1,q1,r1⟩:=V0 s3 q3 hx;exact ⟨p,vs,e1,by rw [<-hk3];exact q1,λp hp=>La s3 (Reps.cutD r1 l u) h3 p hp⟩
  ·exact h3.elim
 cases d with
 | str z=>
  have h4:out E c3 (if z.length<=1000000 then .ok (.str (R1 z l u)) G3 else .bad) Q:=h3;split at h4
  ·rename_i hl
   cases (show v=V.str z from q3)
   exact .inr (.inr (.inr ⟨z,rfl,Nat.le_trans hl size6,h4 c3 _ (Ext.refl _) s3 rfl⟩))
  ·exact h4.elim
 | tup xs=>
  have h4:out E c3 (.ok (.tup (cutD xs l u)) G3) Q:=h3;obtain ⟨p,vs,e1,q1,r1⟩:=q3;by_cases hw:HT.sIx vs.length 0 l=0/\HT.sIx vs.length vs.length u=vs.length
  ·refine .inr (.inr (.inl ⟨p,vs,e1,by rw [<-hk3];exact q1,hw,h4 c3 _ (Ext.refl _) s3 ⟨p,vs,rfl,q1,?_⟩⟩));have:cutD xs l u=xs:=by unfold cutD;rw [r1.length,hw.1,hw.2,<-r1.length];simp
   rw [this];exact r1
  ·exact .inr (.inl ⟨p,vs,e1,by rw [<-hk3];exact q1,hw,λp hp=>ZFL s3 (Reps.cutD r1 l u) h4 p hp⟩)
 | fl xs=>exact .inl (lst h3)
 | ref i=>exact .inl (lst h3)
 | non=>exact (show False from h3).elim
 | bl _=>exact (show False from h3).elim
 | int _=>exact (show False from h3).elim
 | ty _=>exact (show False from h3).elim
section
variable {name:Str} {id:String} {f:D->List D->DH->R D} {o e:Expr} {es:List Expr} {to:DE} {t:DA} {apos cpos:Pos}
end
end
section
variable {S:DSt} {G:DH}
@[simp] theorem ev_Sl {e:DE} {lo hi:Option DE}:dSl e lo hi S G=(e S G).bind λd G1=>(Ol lo S G1).bind λl G2=>(Ol hi S G2).bind λh G3=>ZE5 d l h G3:=id rfl
@[simp] theorem Qf {z:Str} {i:Int}:Ai (.str z) (.int i) G=if z.length<=1000000 then (match atI z.cps.toList i with | some c=>.ok (sgn c) G | none=>.bad) else .bad:=id rfl
end
end DL
namespace DL
open PySem PySem.Spec L2
open PyProof.Rows hiding St
open Builtin.Str
variable {g:DG} {c:DB} {te:DE} {S:DSt} {G:DH}
section
variable (p:Nat->Bool) (m:Nat)
end
noncomputable def CStep (g:DG) (c:DB) (te:DE) (S:DSt) (G:DH) (x:D) (r:Option D):Prop:=
 ∃S1,g x S G=.ok S1 G/\((c S1 G=.ok false G/\r=none)∨(c S1 G=.ok true G/\∃d,te S1 G=.ok d G/\r=some d))
theorem Yu {F:D->Option D}:∀{xs:List D},(∀x∈xs,CStep g c te S G x (F x))->Eb g c te S xs G=.ok (xs.filterMap F) G
 | [],_=>rfl
 | x::xs,h=>by
  obtain ⟨S1,h1,h2⟩:=h x (by simp);have ih:=Yu (λy hy=>h y (List.mem_cons_of_mem _ hy));rw [ZDa,h1];rcases h2 with ⟨h2,h3⟩ | ⟨h2,d,h3,h4⟩
  ·simp [h2,h3,ih,List.filterMap_cons]
  ·simp [h2,h3,h4,ih,List.filterMap_cons]
theorem ZGu {i:Nat} {F:D->Option D} {xs:List D} (hG:G[i]? =some (.lst xs)) (h:∀x∈xs,CStep g c te S G x (F x)):
  ∀(n j:Nat),j + n=xs.length->H8 i g c te S n j G=.ok ((xs.drop j).filterMap F) G
 | 0,j,hj=>by
  unfold H8;rw [hG];simp only;rw [if_pos (by lia),List.drop_of_length_le (by lia)]
  rfl
 | n + 1,j,hj=>by
  have hlt:j < xs.length:=by lia
  have ih:=ZGu hG h n (j + 1) (by lia);obtain ⟨S1,h1,h2⟩:=h xs[j] (List.getElem_mem hlt);unfold H8;rw [hG];simp only;rw [List.getElem?_eq_getElem hlt];simp only [h1,R.Lg];rw [List.drop_eq_getElem_cons hlt,List.filterMap_cons];rcases h2 with ⟨h2,h3⟩ | ⟨h2,d,h3,h4⟩
  ·simp [h2,h3,ih]
  ·simp [h2,h3,h4,ih]
theorem ZJA {i:Nat} {F:D->Option D} {xs:List D} (hG:G[i]? =some (.lst xs)) (h:∀x∈xs,CStep g c te S G x (F x)):
  H8 i g c te S xs.length 0 G=.ok (xs.filterMap F) G:=ZGu hG h xs.length 0 (by lia)
theorem ZIk {x y:Str} (h:x.cps.toList=y.cps.toList):x=y:=by obtain ⟨a⟩:=x;obtain ⟨b⟩:=y;simp only at h;rw [Array.toList_inj.mp h]
end DL
namespace DL
open PySem PySem.Spec L2
open PyProof.Rows hiding St
variable {h h':Heap} {p z:Addr} {k i:Nat} {old:Value} {os:List Value}
inductive Src where
 | l (a:Addr)
 | t (a:Addr)
variable {sr:Src} {l:List (Src×Addr)}
noncomputable def Src.itn:Src->String
 | .l _=>"list_iterator"
 | .t _=>"tuple_iterator"
noncomputable def Src.adr:Src->Addr
 | .l a=>a
 | .t a=>a
noncomputable def Src.it (h:Heap) (p:Addr) (k:Nat) (sr:Src):Prop:=∃o,h.get? p=some o/\o.cls=.type sr.itn/\o.data=.fields #[.ref sr.adr,.int k 0]
noncomputable def Src.val (h:Heap) (xs:Array Value):Src->Prop
 | .l a=>h.IsList a xs
 | .t a=>h.IsTuple a xs
theorem Src.it.at (x:sr.it h p k) (e:∀o,h.get? p=some o->h'.get? p=some o):sr.it h' p k:=let ⟨o,ho,r⟩:=x;⟨o,e o ho,r⟩
theorem Src.val.at {xs:Array Value} (x:sr.val h xs) (e:∀o,h.get? sr.adr=some o->h'.get? sr.adr=some o):sr.val h' xs:=by
 cases sr with
 | l a=>obtain ⟨o,ho,r⟩:=x;exact ⟨o,e o ho,r⟩
 | t a=>obtain ⟨o,ho,r⟩:=x;exact ⟨o,e o ho,r⟩
theorem Src.it.lt (x:sr.it h p k):p < h.objs.size:=let ⟨_,ho,_⟩:=x;Heap.lt_size ho
section
variable {prog:Program} {w:World} {A:Around} {E:Value->Shared->Prop} {s:Shared}
theorem Src.val.obj {xs:Array Value} (x:sr.val h xs):∃o n,h.get? sr.adr=some o/\o.data=.seq xs n:=by
 cases sr with
 | l a=>obtain ⟨o,ho,_,n,hd⟩:=x;exact ⟨o,n,ho,hd⟩
 | t a=>obtain ⟨o,ho,_,n,hd⟩:=x;exact ⟨o,n,ho,hd⟩
theorem Src.next_item {xs:Array Value} {x:Value} {Q:Value->Shared->Prop} (hit:sr.it s.heap p k) (hv:sr.val s.heap xs) (hx:xs[k]? =some x)
  (hQ:∀h',sr.it h' p (k + 1)->Heap.SameBut p s.heap h'->Q x {s with heap:=h'}):wpAny (model prog w) A (Builtin.SmallTypes.nextOf (.ref p)) Q E s:=by
 cases sr with
 | l a=>exact wpAny_nextOf_list_item (show s.heap.IsListIter p a k from hit) hv hx hQ
 | t a=>
  obtain ⟨o,ho,hc,hd⟩:=id hit;obtain ⟨ol,hol,_,nl,hdl⟩:=hv;have hT:s.TypeIs (.ref p) "tuple_iterator":=⟨o,ho,hc⟩;unfold Builtin.SmallTypes.nextOf;refine wpAny_bind (wpAny_callSpecial?_slot (name:=Str.ofString "__next__") hT PySem.F.slot_tuple_iterator_next (wpAny_call_entry PySem.F.slot_tuple_iterator_next hT PySem.F.entry_tuple_iterator_next ?_ (PySem.F.args_tuple_iterator_next_1 _)));refine wpAny_bind (m:=field (.ref p) 0) (wpAny_field ho hd (x:=.ref a) rfl ?_)
  show wpAny _ _ (if (Value.ref a == Value.none)=true then _ else (field (.ref p) 1 >>=_)) _ _ s
  rw [if_neg (show¬((Value.ref a == Value.none)=true) from Bool.false_ne_true)]
  refine wpAny_bind (m:=field (.ref p) 1) (wpAny_field ho hd (x:=.int k 0) rfl (wpAny_bind (m:=seqItems? (.ref a)) (wpAny_seqItems hol hdl ?_)));simp only [Int.toNat_natCast,hx];refine wpAny_bind (wpAny_setField ho hd (by simp) (wpAny_pure ⟨x,rfl,wpAny_pure (hQ _ ⟨_,Heap.get?_update_self _ ho (Obj.isFreed_of_fields (Obj.data_mapFields hd _)),(Obj.cls_mapFields ..).trans hc,?_⟩ (Heap.SameBut.update ..))⟩))
  rw [Obj.data_mapFields hd];simp [rawInt,Src.adr]
theorem Src.next_end {xs:Array Value} {Q:Value->Shared->Prop} (hh:A.handled=none) (hit:sr.it s.heap p k) (hv:sr.val s.heap xs) (hx:xs[k]? =none)
  (hE:∀h' e,Heap.ExtBut p s.heap h'->(∃o,h'.get? e=some o/\o.cls=.type "StopIteration")->E (.ref e) {s with heap:=h'}):wpAny (model prog w) A (Builtin.SmallTypes.nextOf (.ref p)) Q E s:=by
 cases sr with
 | l a=>exact wpAny_nextOf_list_end hh (show s.heap.IsListIter p a k from hit) hv hx hE
 | t a=>
  obtain ⟨o,ho,hc,hd⟩:=id hit;obtain ⟨ol,hol,_,nl,hdl⟩:=hv;have hT:s.TypeIs (.ref p) "tuple_iterator":=⟨o,ho,hc⟩;unfold Builtin.SmallTypes.nextOf;refine wpAny_bind (wpAny_callSpecial?_slot (name:=Str.ofString "__next__") hT PySem.F.slot_tuple_iterator_next (wpAny_call_entry PySem.F.slot_tuple_iterator_next hT PySem.F.entry_tuple_iterator_next ?_ (PySem.F.args_tuple_iterator_next_1 _)));refine wpAny_bind (m:=field (.ref p) 0) (wpAny_field ho hd (x:=.ref a) rfl ?_)
  show wpAny _ _ (if (Value.ref a == Value.none)=true then _ else (field (.ref p) 1 >>=_)) _ _ s
  rw [if_neg (show¬((Value.ref a == Value.none)=true) from Bool.false_ne_true)]
  refine wpAny_bind (m:=field (.ref p) 1) (wpAny_field ho hd (x:=.int k 0) rfl (wpAny_bind (m:=seqItems? (.ref a)) (wpAny_seqItems hol hdl ?_)));simp only [Int.toNat_natCast,hx];refine wpAny_bind (wpAny_rule (wpAny_bind (wpAny_setField ho hd (by simp) (wpAny_bind (m:=newExc (.type "StopIteration") []) ?_))));simp only [newExc,newTuple]
  refine wpAny_bind (wpAny_newObj_type (wpAny_bind (m:=firstArgMember _ _) (wpAny_of_eq (a:=Value.none) (by first | rfl | (simp only [firstArgMember];rfl)) (wpAny_newObj_type ?_ (by size_fits)))) (by size_fits))
  simp only [raiseNew];refine wpAny_bind (wpAny_handled ?_)
  first | rw [show A.in1.handled=none from hh] | rw [hh]
  exact wpAny_bind (wpAny_pure (wpAny_throw (hE _ _ (((Heap.SameBut.update ..).extBut.push _).push _) ⟨_,Heap.get?_push_size _ rfl,rfl⟩)))
theorem Src.iter {xs:Array Value} {Q:Value->Shared->Prop} (hv:sr.val s.heap xs)
  (hQ:Q (.ref s.heap.objs.size) {s with heap:=s.heap.push {cls:=.type sr.itn,data:=.fields #[.ref sr.adr,.int 0 0]}}):wpAny (model prog w) A (pyIter (.ref sr.adr)) Q E s:=by
 cases sr with
 | l a=>exact wpAny_pyIter_list hv hQ
 | t a=>exact wpAny_pyIter_tuple hv hQ
end
noncomputable abbrev En (h:Heap) (e it:Addr) (f0:Value) (i:Int) (g old:Value):Prop:=
 h.get? e=some {cls:=.type "enumerate",dict:=none,data:=.fields #[f0,.bool false,.ref it,rawInt i,g,old],slots:= #[]}
noncomputable def Gv (i:Int) (g:Value):Prop:=g=.none∨∃t,g=.int i t
section
variable {prog:Program} {w:World} {A:Around} {E:Value->Shared->Prop} {s:Shared}
theorem ZKI {e it:Addr} {i:Int} {xs:Array Value} {x g:Value} {Q:Value->Shared->Prop} (he:En s.heap e it .none i g old) (hg:Gv i g) (hit:sr.it s.heap it k) (hv:sr.val s.heap xs) (hx:xs[k]? =some x) (hne:e≠it)
  (hQ:∀h' t tk,En h' e it (rawInt s.heap.objs.size) (i + 1) .none x->sr.it h' it (k + 1)->h'.get? s.heap.objs.size=some {cls:=.type "tuple",data:=.seq #[.int i t,x]}->h'.objs.size=s.heap.objs.size + 1->
   (∀b o,b≠e->b≠it->s.heap.get? b=some o->h'.get? b=some o)->Q (.ref s.heap.objs.size) {s with heap:=h',toks:=tk}):
  wpAny (model prog w) A (Builtin.«enumerate.__next__» ⟨[.ref e],[]⟩) (λfin s'=>∃v,fin=.done (.ret v)/\Q v s') E s:=by
 obtain ⟨hp,gg,d,tk,os⟩:=s;refine wpAny_bind (m:=field (.ref e) 2) (wpAny_field he rfl (x:=.ref it) rfl (wpAny_bind (m:=Builtin.SmallTypes.nextOf (.ref it)) (Src.next_item hit hv hx λh₁ hit₁ hs₁=> ?_)));have he₁:En h₁ e it .none i g old:=(hs₁.2 e hne).trans he;have k₁:∀b o,b≠e->b≠it->hp.get? b=some o->h₁.get? b=some o:=λb o _ hb q=>hs₁.extBut b o hb q
 have z₁:h₁.objs.size=hp.objs.size:=hs₁.1;refine wpAny_bind (m:=field (.ref e) 3) (wpAny_field he₁ rfl (x:=rawInt i) rfl ?_);refine wpAny_bind (m:=field (.ref e) 4) (wpAny_field he₁ rfl (x:=g) rfl ?_)
 have rest:∀(t:Tok) (tk':Nat),wpAny (model prog w) A (do
   setField (.ref e) 3 (rawInt (i + 1));setField (.ref e) 4 .none
   let result<-newTuple [.int i t,x]
   if<-Builtin.SmallTypes.ownedTupleIsFree (.ref e) then
    rule "enumerate.__next__.owned-tuple-again"
    let old<-field (.ref e) 5
    setField (.ref e) 5 x
    Builtin.SmallTypes.ownedTupleHandOut (.ref e) result
    PySem.letGo [old] [result]
   ret result) (λfin s'=>∃v,fin=.done (.ret v)/\Q v s') E ⟨h₁,gg,d,tk',os⟩:=by
  intro t tk';refine wpAny_bind (wpAny_setField_rec he₁ (by simp) λh₂ he₂ hs₂=> ?_);refine wpAny_bind (wpAny_setField_rec he₂ (by simp) λh₃ he₃ hs₃=> ?_)
  replace he₃:En h₃ e it .none (i + 1) .none old:=he₃
  have z₃:h₃.objs.size=hp.objs.size:=by rw [hs₃.1];show h₂.objs.size=_;rw [hs₂.1];exact z₁
  have k₃:∀b o,b≠e->b≠it->hp.get? b=some o->h₃.get? b=some o:=λb o h1 h2 q=>hs₃.extBut b o h1 (hs₂.extBut b o h1 (k₁ b o h1 h2 q))
  have i₃:sr.it h₃ it (k + 1):=(hit₁.at λo q=>hs₂.extBut it o (Ne.symm hne) q).at λo q=>hs₃.extBut it o (Ne.symm hne) q
  refine wpAny_bind (wpAny_newTuple ?_);generalize hh₄:h₃.push {cls:=.type "tuple",data:=.seq [Value.int i t,x].toArray}=h₄;have he₄:En h₄ e it .none (i + 1) .none old:=by rw [<-hh₄];exact Heap.get?_push_of_some _ he₃
  have ht₄:h₄.get? hp.objs.size=some {cls:=.type "tuple",data:=.seq #[.int i t,x]}:=by rw [<-hh₄,<-z₃];exact Heap.get?_push_size _ rfl
  have z₄:h₄.objs.size=hp.objs.size + 1:=by rw [<-hh₄,Heap.size_push,z₃]
  have k₄:∀b o,b≠e->b≠it->hp.get? b=some o->h₄.get? b=some o:=λb o h1 h2 q=>by rw [<-hh₄];exact Heap.get?_push_of_some _ (k₃ b o h1 h2 q)
  have i₄:sr.it h₄ it (k + 1):=i₃.at λo q=>by rw [<-hh₄];exact Heap.get?_push_of_some _ q
  have ez:e < hp.objs.size:=Heap.lt_size he;refine wpAny_bind (m:=Builtin.SmallTypes.ownedTupleIsFree (.ref e)) ?_;unfold Builtin.SmallTypes.ownedTupleIsFree;refine wpAny_bind (wpAny_field he₄ rfl (x:=.none) rfl (wpAny_pure ?_));simp only [if_true];refine wpAny_bind (wpAny_rule (wpAny_bind (wpAny_field he₄ rfl (x:=old) rfl (wpAny_bind (wpAny_setField_rec he₄ (by simp) λh₅ he₅ hs₅=> ?_)))))
  replace he₅:En h₅ e it .none (i + 1) .none x:=he₅
  refine wpAny_bind (m:=Builtin.SmallTypes.ownedTupleHandOut _ _) ?_;unfold Builtin.SmallTypes.ownedTupleHandOut;refine wpAny_bind (wpAny_setField_rec he₅ (by simp) λh₆ he₆ hs₆=> ?_);refine wpAny_setField_rec he₆ (by simp) λh₇ he₇ hs₇=> ?_
  refine wpAny_bind (wpAny_letGo (wpAny_pure ⟨_,rfl,?_⟩));have up:∀b o,b≠e->h₄.get? b=some o->h₇.get? b=some o:=λb o hb q=>hs₇.extBut b o hb (hs₆.extBut b o hb (hs₅.extBut b o hb q))
  show Q (.ref h₃.objs.size) _;rw [z₃];rw [z₃] at he₇;exact hQ h₇ t tk' he₇ (i₄.at λo q=>up it o (Ne.symm hne) q) (up _ _ (Nat.ne_of_gt ez) ht₄) (by rw [hs₇.1];show h₆.objs.size=_;rw [hs₆.1];show h₅.objs.size=_;rw [hs₅.1];exact z₄) λb o h1 h2 q=>up b o h1 (k₄ b o h1 h2 q)
 rcases hg with rfl | ⟨t,rfl⟩
 ·exact wpAny_bind (m:=mkInt i) (wpAny_mkInt (rest tk (tk + 1)))
 ·exact wpAny_bind (m:=(pure (Value.int i t):Sem Value)) (wpAny_pure (rest t tk))
theorem ZQS {e it:Addr} {i:Int} {xs:Array Value} {x g:Value} {Q:Option Value->Shared->Prop} (he:En s.heap e it .none i g old) (hg:Gv i g) (hit:sr.it s.heap it k) (hv:sr.val s.heap xs) (hx:xs[k]? =some x) (hne:e≠it)
  (hQ:∀h' t tk,En h' e it (rawInt s.heap.objs.size) (i + 1) .none x->sr.it h' it (k + 1)->h'.get? s.heap.objs.size=some {cls:=.type "tuple",data:=.seq #[.int i t,x]}->h'.objs.size=s.heap.objs.size + 1->
   (∀b o,b≠e->b≠it->s.heap.get? b=some o->h'.get? b=some o)->Q (some (.ref s.heap.objs.size)) {s with heap:=h',toks:=tk}):
  wpAny (model prog w) A (pyNext (.ref e)) Q E s:=by
 have hT:s.TypeIs (.ref e) "enumerate":=⟨_,he,rfl⟩;unfold pyNext;exact wpAny_bind (wpAny_attempt (wpAny_callSpecial?_slot (name:=Str.ofString "__next__") hT PySem.F.slot_enumerate_next
  (wpAny_call_entry PySem.F.slot_enumerate_next hT PySem.F.entry_enumerate_next (ZKI he hg hit hv hx hne λh' t tk a1 a2 a3 a4 a5=>wpAny_pure (hQ h' t tk a1 a2 a3 a4 a5)) (PySem.F.args_enumerate_next_1 _))))
theorem ZLL {e it:Addr} {i:Int} {xs:Array Value} {g:Value} {Q:Option Value->Shared->Prop} (hh:A.handled=none) (he:En s.heap e it .none i g old) (hit:sr.it s.heap it k) (hv:sr.val s.heap xs) (hx:xs[k]? =none)
  (hQ:∀h',Heap.ExtBut it s.heap h'->Q none {s with heap:=h'}):wpAny (model prog w) A (pyNext (.ref e)) Q E s:=by
 have hT:s.TypeIs (.ref e) "enumerate":=⟨_,he,rfl⟩;unfold pyNext;refine wpAny_bind (wpAny_attempt (wpAny_callSpecial?_slot (name:=Str.ofString "__next__") hT PySem.F.slot_enumerate_next
  (wpAny_call_entry PySem.F.slot_enumerate_next hT PySem.F.entry_enumerate_next (wpAny_bind (m:=field (.ref e) 2) (wpAny_field he rfl (x:=.ref it) rfl (wpAny_bind (m:=Builtin.SmallTypes.nextOf (.ref it)) (Src.next_end hh hit hv hx λh' x he' hx'=> ?_)))) (PySem.F.args_enumerate_next_1 _))))
 obtain ⟨o,ho,hc⟩:=hx';exact wpAny_bind (wpAny_isInstance (T:="StopIteration") (b:=true) ⟨o,ho,hc⟩ isSubtype_stop (wpAny_pure (hQ _ he')))
theorem ZN5 {elts:List Expr} {x1} {pos:Pos} {e it a:Addr} {i:Int} {g:Value} {Q:Unit->Shared->Prop} (he:En s.heap e it (rawInt a) i g old)
  (hQ:∀h',En h' e it .none i g old->Heap.SameBut e s.heap h'->Q () {s with heap:=h'}):wpAny (model prog w) A (letOwnedTupleGo (.Tuple elts x1 pos) (.ref e) (.ref a)) Q E s:=by
 unfold letOwnedTupleGo;refine wpAny_bind (wpAny_load he ?_);dsimp only;rw [if_pos (by simp)];exact wpAny_bind (wpAny_rule (wpAny_setField_rec he (by simp) λh' he' hs'=>hQ h' he' hs'))
theorem ZIR {e it:Addr} {f0:Value} {i:Int} {g:Value} {Q:Value->Shared->Prop} (he:En s.heap e it f0 i g old) (h:Q (.ref e) s):wpAny (model prog w) A (pyIter (.ref e)) Q E s:=by have hT:s.TypeIs (.ref e) "enumerate":=⟨_,he,rfl⟩;exact wpAny_pyIter_slot hT PySem.F.slot_enumerate_iter (wpAny_call_entry PySem.F.slot_enumerate_iter hT PySem.F.entry_enumerate_iter (wpAny_pure ⟨_,rfl,"enumerate",_,hT,PySem.F.slot_enumerate_next.lookup,h⟩) (PySem.F.args_enumerate_iter_1 _))
end
noncomputable abbrev Tp (h:Heap) (T:Addr) (xs:List Value):Prop:=h.get? T=some {cls:=.type "tuple",data:=.seq xs.toArray}
inductive Drw (h:Heap) (i:Nat):List (Src×Addr)->List Value->Prop where
 | nil:Drw h i [] []
 | cons {sr p r x us xs} (hit:Src.it h p i sr) (hv:sr.val h xs) (hx:xs[i]? =some x) (t:Drw h i r us):Drw h i ((sr,p)::r) (x::us)
theorem Drw.length {us:List Value} (d:Drw h i l us):us.length=l.length:=by
 induction d with
 | nil=>rfl
 | cons _ _ _ _ ih=>simp [ih]
section
variable {prog:Program} {w:World} {A:Around} {E:Value->Shared->Prop} {s:Shared}
theorem ZKQ {T:Addr} {xs:List Value} {x:Value} {Q:Unit->Shared->Prop} (hT:Tp s.heap T xs) (hz:xs.length<=1000000)
  (h:∀h',Tp h' T (xs.set k x)->Heap.SameBut T s.heap h'->Q () {s with heap:=h'}):wpAny (model prog w) A (updateSeq T (·.setIfInBounds k x)) Q E s:=by
 have h1:xs.toArray.size<=sizeLine:=by rw [List.size_toArray];exact Nat.le_trans hz size6
 refine wpAny_updateSeq hT rfl (h _ ?_ (Heap.SameBut.update ..)) h1 (by rw [Array.size_setIfInBounds];exact Nat.le_succ_of_le h1);show (s.heap.update T _).get? T=_;rw [Heap.get?_update_self _ hT rfl];simp [Obj.mapSeq]
noncomputable def ZS (prog:Program) (w:World) (A:Around) (E:Value->Shared->Prop) (z TO p:Addr) (k:Nat) (R:Shared->Prop) (s:Shared):Prop:=
 wpAny (model prog w) A (Builtin.SmallTypes.nextOf (.ref p)) (λx s1=>∃os,Tp s1.heap TO os/\os.length<=1000000/\∀h',Tp h' TO (os.set k x)->Heap.SameBut TO s1.heap h'->R {s1 with heap:=h'})
  (λe s'=>wpAny (model prog w) A (setField (.ref z) 0 .none) (λ_ s''=>E e s'') E s') s
theorem ZJv {TO:Addr} {xs:Array Value} {x:Value} {Q:Shared->Prop} (hTO:Tp s.heap TO os) (hz:os.length<=1000000) (hit:sr.it s.heap p i) (hv:sr.val s.heap xs) (hx:xs[i]? =some x)
  (h:∀h',Tp h' TO (os.set k x)->sr.it h' p (i + 1)->(∀b o,b≠TO->b≠p->s.heap.get? b=some o->h'.get? b=some o)->h'.objs.size=s.heap.objs.size->Q {s with heap:=h'}):ZS prog w A E z TO p k Q s:=by
 have hne:TO≠p:=λe=>by
  obtain ⟨o,ho,hc,_⟩:=hit;rw [<-e,hTO] at ho;cases ho
  cases sr <;> (simp [Src.itn] at hc)
 refine Src.next_item hit hv hx λh₁ it₁ sb₁=>⟨os,sb₁.extBut _ _ hne hTO,hz,λh₂ t₂ sb₂=> ?_⟩
 exact h h₂ t₂ (it₁.at λo e=>sb₂.extBut _ _ (Ne.symm hne) e) (λb o b1 b2 e=>sb₂.extBut b o b1 (sb₁.extBut b o b2 e)) (by rw [sb₂.1];show h₁.objs.size=_;rw [sb₁.1])
theorem ZGF {TO:Addr} {body:Value×Nat->Option Fin×PUnit->Sem (ForInStep (Option Fin×PUnit))} {R:Option Fin×PUnit->Shared->Prop}
  (hb:∀(p:Addr) (k:Nat) (s:Shared) (R':ForInStep (Option Fin×PUnit)->Shared->Prop),ZS prog w A E z TO p k (λs'=>R' (.yield (none,⟨⟩)) s') s->
   wpAny (model prog w) A (body (.ref p,k) (none,⟨⟩)) R' E s):
  ∀(l:List (Src×Addr)) (us pre post:List Value) (s:Shared),Drw s.heap i l us->Tp s.heap TO (pre++post)->post.length=l.length->(pre++post).length<=1000000->(l.map (·.2)).Nodup->(∀q∈l,q.1.adr≠TO)->(∀q∈l,∀r∈l,q.1.adr≠r.2)->
   (∀h',Tp h' TO (pre++us)->(∀q∈l,q.1.it h' q.2 (i + 1))->(∀b o,b≠TO->b ∉ l.map (·.2)->s.heap.get? b=some o->h'.get? b=some o)->h'.objs.size=s.heap.objs.size->R (none,⟨⟩) {s with heap:=h'})->
   wpAny (model prog w) A (forIn ((l.map λq=>Value.ref q.2).zipIdx pre.length) (none,⟨⟩) body) R E s
 | [],us,pre,post,s,d,hT,hl,hz,nd,na,np,hR=>by
  cases d;cases post with
  | cons _ _=>simp at hl
  | nil=>
   rw [List.map_nil,List.zipIdx_nil,List.forIn_nil];exact wpAny_pure (hR s.heap hT (λq hq=>by cases hq) (λb o _ _ e=>e) rfl)
 | (sr,p)::l,us,pre,post,s,d,hT,hl,hz,nd,na,np,hR=>by
  cases d with
  | @cons _ _ _ x us xs hit hv hx d=>
  cases post with
  | nil=>simp at hl
  | cons y post=>
   rw [List.map_cons,List.zipIdx_cons,List.forIn_cons];refine wpAny_bind (hb p pre.length s _ (ZJv hT hz hit hv hx λh' hT' it' kp sz=> ?_));have e1:(pre++y::post).set pre.length x=(pre++ [x])++post:=by simp
   rw [e1] at hT';have e2:pre.length + 1=(pre++ [x]).length:=by simp
   dsimp only;rw [e2]
   have nd':p ∉ l.map (·.2)/\(l.map (·.2)).Nodup:=by simpa using nd
   have hTOp:∀q∈l,q.2≠TO:=λq hq e=>by
    have:∃sr k,Src.it s.heap q.2 k sr:=by
     clear hR na np nd nd' e1 e2 hl hT' hz
     induction d with
     | nil=>cases hq
     | cons hit _ _ _ ih=>
      rcases List.mem_cons.mp hq with rfl | hq
      ·exact ⟨_,_,hit⟩
      ·exact ih hq
    obtain ⟨sr',k,o,ho,hc,_⟩:=this;rw [e,hT] at ho;cases ho
    cases sr' <;> (simp [Src.itn] at hc)
   have d':Drw h' i l us:=by
    have na':∀q∈l,q.1.adr≠TO:=λq hq=>na q (List.mem_cons_of_mem _ hq)
    have np':∀q∈l,q.1.adr≠p:=λq hq=>np q (List.mem_cons_of_mem _ hq) (sr,p) List.mem_cons_self
    have pp:∀q∈l,q.2≠p:=λq hq e=>nd'.1 (List.mem_map.mpr ⟨q,hq,e⟩)
    clear hR na np nd nd' e1 e2 hl hT' hz
    induction d with
    | nil=>exact .nil
    | @cons sr1 p1 r1 x1 us1 xs1 hit1 hv1 hx1 t1 ih=>
     refine .cons (hit1.at λo e=>kp _ o (hTOp _ List.mem_cons_self) (pp _ List.mem_cons_self) e) (hv1.at λo e=>kp _ o (na' _ List.mem_cons_self) (np' _ List.mem_cons_self) e) hx1 ?_;exact ih (λq hq=>hTOp q (List.mem_cons_of_mem _ hq)) (λq hq=>na' q (List.mem_cons_of_mem _ hq)) (λq hq=>np' q (List.mem_cons_of_mem _ hq)) (λq hq=>pp q (List.mem_cons_of_mem _ hq))
   refine ZGF hb l us (pre++ [x]) post {s with heap:=h'} d' hT' (by simpa using hl) (by simpa using hz) nd'.2 (λq hq=>na q (List.mem_cons_of_mem _ hq)) (λq hq r hr=>np q (List.mem_cons_of_mem _ hq) r (List.mem_cons_of_mem _ hr)) λh'' t'' its'' kp'' sz''=> ?_
   have hpTO:p≠TO:=λe=>by
    obtain ⟨o,ho,hc,_⟩:=hit;rw [e,hT] at ho;cases ho
    cases sr <;> (simp [Src.itn] at hc)
   refine hR h'' (by simpa using t'') (λq hq=> ?_) (λb o b1 b2 e=> ?_) (sz''.trans sz)
   ·rcases List.mem_cons.mp hq with rfl | hq
    ·exact it'.at λo e=>kp'' _ o hpTO nd'.1 e
    ·exact its'' q hq
   ·simp only [List.map_cons,List.mem_cons,not_or] at b2;exact kp'' b o b1 b2.2 (kp b o b1 b2.1 e)
end
inductive DrwE (h:Heap) (i:Nat):List (Src×Addr)->Prop where
 | here {sr p r xs} (hit:Src.it h p i sr) (hv:sr.val h xs) (hx:xs[i]? =none):DrwE h i ((sr,p)::r)
 | there {sr p r x xs} (hit:Src.it h p i sr) (hv:sr.val h xs) (hx:xs[i]? =some x) (t:DrwE h i r):DrwE h i ((sr,p)::r)
structure ApZ (TO:Addr) (l:List (Src×Addr)):Prop where
 nd:(l.map (·.2)).Nodup
 na:∀q∈l,q.1.adr≠TO
 np:∀q∈l,∀r∈l,q.1.adr≠r.2
 to:∀q∈l,q.2≠TO
theorem ApZ.tail {TO:Addr} {q:Src×Addr} (a:ApZ TO (q::l)):ApZ TO l:=
 ⟨(List.nodup_cons.mp (by simpa using a.nd)).2,λq hq=>a.na q (List.mem_cons_of_mem _ hq),λq hq r hr=>a.np q (List.mem_cons_of_mem _ hq) r (List.mem_cons_of_mem _ hr),λq hq=>a.to q (List.mem_cons_of_mem _ hq)⟩
section
variable {prog:Program} {w:World} {A:Around} {E:Value->Shared->Prop} {s:Shared}
theorem DrwE.at {TO:Addr} (a:ApZ TO ((sr,p)::l)) (kp:∀b o,b≠TO->b≠p->h.get? b=some o->h'.get? b=some o) (d:DrwE h i l):DrwE h' i l:=by
 have pp:∀q∈l,q.2≠p:=λq hq e=>(List.nodup_cons.mp (by simpa using a.nd)).1 (List.mem_map.mpr ⟨q,hq,e⟩)
 have np:∀q∈l,q.1.adr≠p:=λq hq=>a.np q (List.mem_cons_of_mem _ hq) (sr,p) List.mem_cons_self
 have a':=a.tail;clear a
 induction d with
 | here hit hv hx=>exact .here (hit.at λo e=>kp _ o (a'.to _ List.mem_cons_self) (pp _ List.mem_cons_self) e) (hv.at λo e=>kp _ o (a'.na _ List.mem_cons_self) (np _ List.mem_cons_self) e) hx
 | there hit hv hx t ih=>
  exact .there (hit.at λo e=>kp _ o (a'.to _ List.mem_cons_self) (pp _ List.mem_cons_self) e) (hv.at λo e=>kp _ o (a'.na _ List.mem_cons_self) (np _ List.mem_cons_self) e) hx
   (ih (λq hq=>pp q (List.mem_cons_of_mem _ hq)) (λq hq=>np q (List.mem_cons_of_mem _ hq)) a'.tail)
theorem ZG5 {TO:Addr} {body:Value×Nat->Option Fin×PUnit->Sem (ForInStep (Option Fin×PUnit))} {R:Option Fin×PUnit->Shared->Prop} (hh:A.handled=none)
  (hb:∀(p:Addr) (k:Nat) (s:Shared) (R':ForInStep (Option Fin×PUnit)->Shared->Prop),ZS prog w A E z TO p k (λs'=>R' (.yield (none,⟨⟩)) s') s->
   wpAny (model prog w) A (body (.ref p,k) (none,⟨⟩)) R' E s):
  ∀(l:List (Src×Addr)) (os:List Value) (n:Nat) (s:Shared),DrwE s.heap i l->Tp s.heap TO os->os.length<=1000000->ApZ TO l->
   (∀h' e,(∀b o,b≠TO->b ∉ l.map (·.2)->s.heap.get? b=some o->h'.get? b=some o)->(∃o,h'.get? e=some o/\o.cls=.type "StopIteration")->wpAny (model prog w) A (setField (.ref z) 0 .none) (λ_ s''=>E (.ref e) s'') E {s with heap:=h'})->
   wpAny (model prog w) A (forIn ((l.map λq=>Value.ref q.2).zipIdx n) (none,⟨⟩) body) R E s
 | [],os,n,s,d,hT,hz,a,hE=>by cases d
 | (sr,p)::l,os,n,s,d,hT,hz,a,hE=>by
  rw [List.map_cons,List.zipIdx_cons,List.forIn_cons];refine wpAny_bind (hb p n s _ ?_);cases d with
  | here hit hv hx=>
   exact Src.next_end hh hit hv hx λh' e xb st=>hE h' e (λb o b1 b2 q=>xb b o (λz=>b2 (by rw [z];simp)) q) st
  | there hit hv hx t=>
   refine ZJv hT hz hit hv hx λh' hT' it' kp sz=> ?_
   refine ZG5 hh hb l _ (n + 1) {s with heap:=h'} (t.at a kp) hT' (by simpa using hz) a.tail λh'' e kp'' st=> ?_
   refine hE h'' e (λb o b1 b2 q=> ?_) st;simp only [List.map_cons,List.mem_cons,not_or] at b2;exact kp'' b o b1 b2.2 (kp b o b1 b2.1 q)
theorem ZHW {TI TO:Addr} {R:Fin->Shared->Prop} (hz:IsZip s.heap z TI TO .none) (hTI:Tp s.heap TI (l.map λq=>Value.ref q.2)) (hne:l≠ [])
  (h:∀h₁,IsZip h₁ z TI TO .ellipsis->Heap.SameBut z s.heap h₁->∀body:Value×Nat->Option Fin×PUnit->Sem (ForInStep (Option Fin×PUnit)),
   (∀(p:Addr) (k:Nat) (s:Shared) (R':ForInStep (Option Fin×PUnit)->Shared->Prop),ZS prog w A E z TO p k (λs'=>R' (.yield (none,⟨⟩)) s') s->
    wpAny (model prog w) A (body (.ref p,k) (none,⟨⟩)) R' E s)->
   wpAny (model prog w) A (forIn ((l.map λq=>Value.ref q.2).zipIdx 0) (none,⟨⟩) body) (λr s'=>r.1=none/\∃us,Tp s'.heap TO us/\us.length<=1000000/\IsZip s'.heap z TI TO .ellipsis/\
    ∀h',IsZip h' z TI TO (rawInt s'.heap.objs.size)->Tp h' s'.heap.objs.size us->h'.objs.size=s'.heap.objs.size + 1->(∀b o,b≠z->s'.heap.get? b=some o->h'.get? b=some o)->R (.done (.ret (.ref s'.heap.objs.size))) {s' with heap:=h'}) E {s with heap:=h₁}):
  wpAny (model prog w) A (Builtin.«zip.__next__» ⟨[.ref z],[]⟩) R E s:=by
 refine wpAny_bind (m:=field (.ref z) 2) (wpAny_field hz rfl (x:=.bool false) rfl (wpAny_bind (m:=field (.ref z) 3) (wpAny_field hz rfl (x:=.ref TI) rfl (wpAny_bind (m:=seqItems? (.ref TI)) (wpAny_seqItems hTI rfl ?_)))));dsimp only;have hemp:(l.map λq=>Value.ref q.2).toArray.isEmpty=false:=by cases l with
  | nil=>exact absurd rfl hne
  | cons _ _=>simp
 rw [hemp];refine wpAny_bind (m:=Builtin.SmallTypes.ownedTupleIsFree (.ref z)) ?_;unfold Builtin.SmallTypes.ownedTupleIsFree;refine wpAny_bind (wpAny_field hz rfl (x:=.none) rfl (wpAny_pure ?_));simp only [if_true];refine wpAny_bind (wpAny_rule (wpAny_bind (wpAny_field hz rfl (x:=.ref TO) rfl (wpAny_bind (wpAny_setField_rec hz (by simp) λh₁ hz₁ hs₁=> ?_)))));refine wpAny_bind (wpAny_mono (h h₁ hz₁ hs₁ _ λp k s R' hst=> ?_) (λr s' hr=> ?_) λ_ _ x=>x)
 ·refine wpAny_bind (wpAny_onRaise ?_);show wpAny _ _ (Builtin.SmallTypes.nextOf (.ref p) >>=λv=>pure (some v)) _ _ s;refine wpAny_bind (wpAny_mono hst (λx s1 hx=>wpAny_pure ?_) λ_ _ x=>x);obtain ⟨os,hT,hl,hR⟩:=hx;dsimp only;refine wpAny_bind (wpAny_seqItems hT rfl ?_);dsimp only;exact wpAny_bind (ZKQ hT hl λh' t' sb=>wpAny_bind (wpAny_letGo (wpAny_pure (hR h' t' sb))))
 ·obtain ⟨hn,us,hT,hl,hzz,hR⟩:=hr;rw [hn];dsimp only;refine wpAny_bind (wpAny_seqItems hT rfl ?_);dsimp only;refine wpAny_bind (wpAny_newTuple ?_ (by show us.toArray.toList.length<=_;simpa using Nat.le_trans hl size6));have hzlt:z < s'.heap.objs.size:=Heap.lt_size hzz;refine wpAny_bind (m:=Builtin.SmallTypes.ownedTupleHandOut _ _) ?_;unfold Builtin.SmallTypes.ownedTupleHandOut;have e1:us.toArray.toList.toArray=us.toArray:=by simp
  rw [e1];have hz2:IsZip (s'.heap.push {cls:=.type "tuple",data:=.seq us.toArray}) z TI TO .ellipsis:=Heap.get?_push_of_some _ hzz;refine wpAny_bind (wpAny_setField_rec hz2 (by simp) λh₇ hz₇ hs₇=> ?_);refine wpAny_setField_rec hz₇ (by simp) λh₈ hz₈ hs₈=> ?_
  refine wpAny_pure (hR h₈ hz₈ ?_ ?_ λb o hb q=>hs₈.extBut _ _ hb (hs₇.extBut _ _ hb (Heap.get?_push_of_some _ q)))
  ·exact hs₈.extBut _ _ (Nat.ne_of_gt hzlt) (hs₇.extBut _ _ (Nat.ne_of_gt hzlt) (Heap.get?_push_size _ rfl))
  ·rw [hs₈.1];show h₇.objs.size=_;rw [hs₇.1,Heap.size_push]
theorem ZNq {TI TO:Addr} {us:List Value} {Q:Option Value->Shared->Prop} (hz:IsZip s.heap z TI TO .none) (hTI:Tp s.heap TI (l.map λq=>Value.ref q.2)) (hTO:Tp s.heap TO os) (hlen:os.length=l.length) (hsz:l.length<=1000000) (hne:l≠ [])
  (a:ApZ TO l) (zz:z≠TO/\(∀q∈l,q.2≠z/\q.1.adr≠z)) (d:Drw s.heap i l us)
  (hQ:∀h',IsZip h' z TI TO (rawInt s.heap.objs.size)->Tp h' TO us->(∀q∈l,q.1.it h' q.2 (i + 1))->Tp h' s.heap.objs.size us->h'.objs.size=s.heap.objs.size + 1->
   (∀b o,b≠z->b≠TO->b ∉ l.map (·.2)->s.heap.get? b=some o->h'.get? b=some o)->Q (some (.ref s.heap.objs.size)) {s with heap:=h'}):wpAny (model prog w) A (pyNext (.ref z)) Q E s:=by
 have hT:s.TypeIs (.ref z) "zip":=⟨_,hz,rfl⟩;unfold pyNext;refine wpAny_bind (wpAny_attempt (wpAny_callSpecial?_slot (name:=Str.ofString "__next__") hT PySem.F.slot_zip_next (wpAny_call_entry PySem.F.slot_zip_next hT PySem.F.entry_zip_next ?_ (PySem.F.args_zip_next_1 _))));refine ZHW hz hTI hne λh₁ hz₁ hs₁ body hb=> ?_
 have k₁:∀b o,b≠z->s.heap.get? b=some o->h₁.get? b=some o:=λb o hb q=>hs₁.extBut b o hb q
 have d₁:Drw h₁ i l us:=by
  have h1:∀q∈l,q.2≠z/\q.1.adr≠z:=zz.2;clear hTI hlen hsz hne a zz hQ
  induction d with
  | nil=>exact .nil
  | cons hit hv hx t ih=>exact .cons (hit.at λo e=>k₁ _ o (h1 _ List.mem_cons_self).1 e) (hv.at λo e=>k₁ _ o (h1 _ List.mem_cons_self).2 e) hx (ih λq hq=>h1 q (List.mem_cons_of_mem _ hq))
 refine ZGF (z:=z) (TO:=TO) (i:=i) hb l us [] os {s with heap:=h₁} d₁ (k₁ _ _ (Ne.symm zz.1) hTO) hlen (by simpa [hlen] using hsz) a.nd a.na a.np λh₂ t₂ it₂ k₂ sz₂=>⟨rfl,us,t₂,by rw [d.length];exact hsz,?_,λh₃ z₃ p₃ s₃ k₃=> ?_⟩
 ·refine k₂ _ _ zz.1 (λhm=> ?_) hz₁;obtain ⟨q,hq,e⟩:=List.mem_map.mp hm;exact (zz.2 q hq).1 e
 ·have e2:h₂.objs.size=s.heap.objs.size:=by rw [sz₂];exact hs₁.1
  refine ⟨_,rfl,wpAny_pure ?_⟩;show Q (some (.ref h₂.objs.size)) _;have z₃':IsZip h₃ z TI TO (rawInt h₂.objs.size):=z₃;have p₃':Tp h₃ h₂.objs.size us:=p₃;have s₃':h₃.objs.size=h₂.objs.size + 1:=s₃;have k₃':∀b o,b≠z->h₂.get? b=some o->h₃.get? b=some o:=k₃;rw [e2] at z₃' p₃' s₃' ⊢;exact hQ h₃ z₃' (k₃' _ _ (Ne.symm zz.1) t₂) (λq hq=>(it₂ q hq).at λo e=>k₃' _ o (zz.2 q hq).1 e) p₃' s₃' λb o b1 b2 b3 q=>k₃' b o b1 (k₂ b o b2 b3 (k₁ b o b1 q))
theorem ZK4 {TI TO:Addr} {Q:Option Value->Shared->Prop} (hh:A.handled=none) (hz:IsZip s.heap z TI TO .none) (hTI:Tp s.heap TI (l.map λq=>Value.ref q.2)) (hTO:Tp s.heap TO os) (hlen:os.length=l.length) (hsz:l.length<=1000000) (hne:l≠ [])
  (a:ApZ TO l) (zz:z≠TO/\(∀q∈l,q.2≠z/\q.1.adr≠z)) (d:DrwE s.heap i l)
  (hQ:∀h',(∀b o,b≠z->b≠TO->b ∉ l.map (·.2)->s.heap.get? b=some o->h'.get? b=some o)->Q none {s with heap:=h'}):wpAny (model prog w) A (pyNext (.ref z)) Q E s:=by
 have hT:s.TypeIs (.ref z) "zip":=⟨_,hz,rfl⟩;unfold pyNext;refine wpAny_bind (wpAny_attempt (wpAny_callSpecial?_slot (name:=Str.ofString "__next__") hT PySem.F.slot_zip_next (wpAny_call_entry PySem.F.slot_zip_next hT PySem.F.entry_zip_next ?_ (PySem.F.args_zip_next_1 _))));refine ZHW hz hTI hne λh₁ hz₁ hs₁ body hb=> ?_
 have k₁:∀b o,b≠z->s.heap.get? b=some o->h₁.get? b=some o:=λb o hb q=>hs₁.extBut b o hb q
 have d₁:DrwE h₁ i l:=by
  have h1:∀q∈l,q.2≠z/\q.1.adr≠z:=zz.2;clear hTI hlen hsz hne a zz hQ
  induction d with
  | here hit hv hx=>exact .here (hit.at λo e=>k₁ _ o (h1 _ List.mem_cons_self).1 e) (hv.at λo e=>k₁ _ o (h1 _ List.mem_cons_self).2 e) hx
  | there hit hv hx t ih=>exact .there (hit.at λo e=>k₁ _ o (h1 _ List.mem_cons_self).1 e) (hv.at λo e=>k₁ _ o (h1 _ List.mem_cons_self).2 e) hx (ih λq hq=>h1 q (List.mem_cons_of_mem _ hq))
 refine ZG5 (A:=A.in1) (z:=z) (TO:=TO) (i:=i) (show A.in1.handled=none from hh) hb l os 0 {s with heap:=h₁} d₁ (k₁ _ _ (Ne.symm zz.1) hTO) (by rw [hlen];exact hsz) a λh₂ e k₂ st=> ?_
 have hz₂:IsZip h₂ z TI TO .ellipsis:=by refine k₂ _ _ zz.1 (λhm=> ?_) hz₁;obtain ⟨q,hq,e⟩:=List.mem_map.mp hm;exact (zz.2 q hq).1 e
 obtain ⟨o,ho,hc⟩:=st;have hez:e≠z:=λx=>by subst x;rw [hz₂] at ho;cases ho;simp at hc
 refine wpAny_setField_rec hz₂ (by simp) λh₃ _ hs₃=> ?_
 refine wpAny_bind (wpAny_isInstance (T:="StopIteration") (b:=true) ⟨o,hs₃.extBut _ _ hez ho,hc⟩ isSubtype_stop (wpAny_pure ?_));exact hQ h₃ λb o b1 b2 b3 q=>hs₃.extBut _ _ b1 (k₂ b o b2 b3 (k₁ b o b1 q))
theorem ZJF:∀(ls:List Src) (pre:Array Value) (s:Shared) {Q:Array Value->Shared->Prop},(∀sr∈ls,∃xs,sr.val s.heap xs)->
  (∀h',(∀q∈ls.zipIdx s.heap.objs.size,q.1.it h' q.2 0)->h'.objs.size=s.heap.objs.size + ls.length->(∀b o,s.heap.get? b=some o->h'.get? b=some o)->Q (pre++((ls.zipIdx s.heap.objs.size).map λq=>Value.ref q.2).toArray) {s with heap:=h'})->
  wpAny (model prog w) A (forIn (ls.map λsr=>Value.ref sr.adr) pre λx r=>do let v<-holding r.toList (pyIter x);pure (ForInStep.yield (r.push v))) Q E s
 | [],pre,s,Q,hv,h=>by rw [List.map_nil,List.forIn_nil];refine wpAny_pure ?_;have:=h s.heap (λq hq=>by cases hq) rfl (λ_ _ e=>e);simpa using this
 | sr::ls,pre,s,Q,hv,h=>by
  rw [List.map_cons,List.forIn_cons];obtain ⟨xs,hx⟩:=hv sr List.mem_cons_self;refine wpAny_bind (wpAny_bind (wpAny_holding (Src.iter hx (wpAny_pure ?_))));dsimp only;have z1:(s.heap.push {cls:=.type sr.itn,data:=.fields #[.ref sr.adr,.int 0 0]}).objs.size=s.heap.objs.size + 1:=Heap.size_push ..;refine ZJF ls (pre.push (.ref s.heap.objs.size)) {s with heap:=s.heap.push {cls:=.type sr.itn,data:=.fields #[.ref sr.adr,.int 0 0]}} (λsr' hm=> ?_) λh' hi hz kp=> ?_
  ·obtain ⟨ys,hy⟩:=hv sr' (List.mem_cons_of_mem _ hm);exact ⟨ys,hy.at λo e=>Heap.get?_push_of_some _ e⟩
  ·dsimp only at hi hz kp ⊢;rw [z1] at hi hz ⊢;have:=h h' (λq hq=> ?_) (by rw [hz,List.length_cons];lia) (λb o e=>kp b o (Heap.get?_push_of_some _ e))
   ·rw [List.zipIdx_cons,List.map_cons] at this;simpa using this
   ·rw [List.zipIdx_cons] at hq;rcases List.mem_cons.mp hq with rfl | hq
    ·exact ⟨_,kp _ _ (Heap.get?_push_size _ rfl),rfl,rfl⟩
    ·exact hi q hq
theorem ZSB {ls:List Src} {Q:Value->Shared->Prop} (hv:∀sr∈ls,∃xs,sr.val s.heap xs) (hl:ls.length<=1000000)
  (hct:checkTypeCall "zip" ⟨ls.map λsr=>Value.ref sr.adr,[]⟩=pure ()) (hcn:checkBuiltinCall "zip.__new__" ⟨.type "zip"::ls.map λsr=>Value.ref sr.adr,[]⟩=pure ()) (hok:∀obj,argsOk "object.__init__" ⟨obj::ls.map λsr=>Value.ref sr.adr,[]⟩)
  (h:∀h' n,n=s.heap.objs.size + ls.length->IsZip h' (n + 2) n (n + 1) .none->Tp h' n ((ls.zipIdx s.heap.objs.size).map λq=>Value.ref q.2)->Tp h' (n + 1) (ls.map λ_=>Value.none)->(∀q∈ls.zipIdx s.heap.objs.size,q.1.it h' q.2 0)->
   (∀b o,s.heap.get? b=some o->h'.get? b=some o)->Q (.ref (n + 2)) {s with heap:=h'}):
  wpAny (model prog w) A (call (.type "zip") (ls.map λsr=>Value.ref sr.adr)) Q E s:=by
 have g:Meets (Builtin.«zip.__new__» ⟨.type "zip"::ls.map λsr=>Value.ref sr.adr,[]⟩) (λ_ R s=>(∀sr∈ls,∃xs,sr.val s.heap xs)/\
   ∀h' n,n=s.heap.objs.size + ls.length->IsZip h' (n + 2) n (n + 1) .none->Tp h' n ((ls.zipIdx s.heap.objs.size).map λq=>Value.ref q.2)->Tp h' (n + 1) (ls.map λ_=>Value.none)->(∀q∈ls.zipIdx s.heap.objs.size,q.1.it h' q.2 0)->
    (∀b o,s.heap.get? b=some o->h'.get? b=some o)->R (.ok (.ret (.ref (n + 2)))) {s with heap:=h'}):=
  .of_wp λprog w A R s hh=>by
   obtain ⟨hv,hR⟩:=hh;have hsub:=sub_zip;unfold Builtin.«zip.__new__» Builtin.SmallTypes.newClass
   wp_walk
   refine ZJF ls #[] s hv λh1 hi hz kp=>wpAny_pure ?_
   have e1:(#[]++((ls.zipIdx s.heap.objs.size).map λq=>Value.ref q.2).toArray:Array Value).toList=(ls.zipIdx s.heap.objs.size).map λq=>Value.ref q.2:=by simp
   rw [e1];have hlen:((ls.zipIdx s.heap.objs.size).map λq=>Value.ref q.2).length=ls.length:=by simp
   refine wpAny_bind (wpAny_newTuple ?_ (by rw [hlen];exact Nat.le_trans hl size6));refine wpAny_bind (wpAny_newTuple ?_ (by rw [List.length_map,hlen];exact Nat.le_trans hl size6));refine wpAny_bind ?_;unfold Builtin.SmallTypes.newRecord;dsimp only;refine wpAny_newObj_type (wpAny_pure ⟨_,rfl,?_⟩) (by simp [sizeOk,Builtin.SmallTypes.ownedTupleFields,sizeLine_eq]);generalize e2:s.heap.objs.size + ls.length=n at *
   have e3:((ls.zipIdx s.heap.objs.size).map λq=>Value.ref q.2).map (λ_=>Value.none)=ls.map λ_=>Value.none:=by refine List.ext_getElem (by simp) λi h1 h2=>by simp
   dsimp only;rw [e3];generalize ((ls.zipIdx s.heap.objs.size).map λq=>Value.ref q.2)=us at *;generalize (ls.map λ_=>Value.none)=ns at *;have s1:(h1.push {cls:=.type "tuple",data:=.seq us.toArray}).objs.size=n + 1:=by rw [Heap.size_push,hz]
   have s2:((h1.push {cls:=.type "tuple",data:=.seq us.toArray}).push {cls:=.type "tuple",data:=.seq ns.toArray}).objs.size=n + 2:=by rw [Heap.size_push,s1]
   show R (.ok (.ret (.ref ((h1.push {cls:=.type "tuple",data:=.seq us.toArray}).push {cls:=.type "tuple",data:=.seq ns.toArray}).objs.size))) _;rw [s2];refine hR _ n rfl ?_ (Heap.get?_push_of_some _ (Heap.get?_push_of_some _ (by rw [<-hz];exact Heap.get?_push_size _ rfl))) (Heap.get?_push_of_some _ (by rw [<-s1];exact Heap.get?_push_size _ rfl)) (λq hq=>(hi q hq).at λo e=>Heap.get?_push_of_some _ (Heap.get?_push_of_some _ (Heap.get?_push_of_some _ e))) λb o e=>Heap.get?_push_of_some _ (Heap.get?_push_of_some _ (Heap.get?_push_of_some _ (kp b o e)))
   have:=Heap.get?_push_size ((h1.push {cls:=.type "tuple",data:=.seq us.toArray}).push {cls:=.type "tuple",data:=.seq ns.toArray}) (o:={cls:=.type "zip",data:=.fields #[.none,.bool false,.bool false,.ref h1.objs.size,.ref (h1.push {cls:=.type "tuple",data:=.seq us.toArray}).objs.size]}) rfl;rw [s2] at this;rw [hz,s1] at this;show _=_;rw [hz,s1];exact this
 refine callType_new PySem.F.called_zip (by decide) hct hcn hok PySem.F.entry_zip_new g ⟨hv,λh' n hn hz hTI hTO hi kp=>⟨⟨_,hz,rfl⟩,h h' n hn hz hTI hTO hi kp⟩⟩
end
end DL
namespace DL
open PySem PySem.W PyProof.Rows
variable {nrem:Nat}
section
noncomputable def Bv (lt:Nat->Nat->Bool) {α:Type}:KasT α->α
 | .ret a=>a
 | .ask i j k=>Bv lt (k (lt i j))
theorem Ov (lt:Nat->Nat->Bool) {α β:Type} (f:α->KasT β):∀t:KasT α,Bv lt (t.bind f)=Bv lt (f (Bv lt t))
 | .ret _=>rfl
 | .ask i j k=>Ov lt f (k (lt i j))
structure WO (lt:Nat->Nat->Bool):Prop where
 asy:∀i j,lt i j=true->lt j i=false
 neg:∀i j k,lt i k=true->lt i j=true∨lt j k=true
variable {lt:Nat->Nat->Bool}
theorem WO.refl (o:WO lt) (i:Nat):lt i i=false:=by
 cases h:lt i i
 ·rfl
 ·have:=o.asy i i h;rw [h] at this;exact this
theorem WO.tr (o:WO lt) {i j k:Nat} (h1:lt j i=false) (h2:lt k j=false):lt k i=false:=by
 cases h:lt k i
 ·rfl
 ·rcases o.neg k j i h with z | z
  ·rw [z] at h2;cases h2
  ·rw [z] at h1;cases h1
noncomputable abbrev pt (p:Array Nat) (j:Nat):Nat:=p.getD j 0
theorem Qn (p:Array Nat) (j:Nat):pt p j=(p[j]?).getD 0:=by simp [pt]
noncomputable def Srt (lt:Nat->Nat->Bool) (p:Array Nat) (k:Nat):Prop:=∀i j,i<=j->j < k->lt (pt p j) (pt p i)=false
noncomputable def NIn (lt:Nat->Nat->Bool) (p:Array Nat) (k:Nat):Prop:=∀i j,i<=j->j < k->lt (pt p i) (pt p j)=false
theorem J6 {p:Array Nat} {i j:Nat} (hj:j<=p.size) (k:Nat):pt (kas_rev p i j) k=if i<=k/\k < j then pt p (i + j - 1 - k) else pt p k:=by
 rw [Qn,kas_rev,getElem?_mirror_all hj]
 split <;> exact (Qn ..).symm
theorem ZLr {p:Array Nat} {src d:Nat} (hs:src < p.size) (hd:d<=src) (k:Nat):pt (bubble p src d) k=if k=src - d then pt p src else if src - d < k/\k<=src then pt p (k - 1) else pt p k:=by
 rw [Qn,getElem?_bubble hs d hd];by_cases h1:k=src - d
 ·rw [if_pos h1,if_pos h1];exact (Qn ..).symm
 ·rw [if_neg h1,if_neg h1];by_cases h2:src - d < k/\k<=src
  ·rw [if_pos h2,if_pos h2];exact (Qn ..).symm
  ·rw [if_neg h2,if_neg h2];exact (Qn ..).symm
theorem ZCM (o:WO lt) (p:Array Nat):∀f n,1<=n->Srt lt p n->∀m,Bv lt (kas_asc p f n)=m->n<=m/\m<=n + f/\Srt lt p m/\(m < n + f->lt (pt p m) (pt p (m - 1))=true)
 | 0,n,h1,h,m,e=>by have e':n=m:=e;subst e';exact ⟨Nat.le_refl _,Nat.le_refl _,h,λz=>absurd z (Nat.lt_irrefl _)⟩
 | f + 1,n,h1,h,m,e=>by
  unfold kas_asc at e;have e1:Bv lt (if lt (pt p n) (pt p (n - 1))=true then KasT.ret n else kas_asc p f (n + 1))=m:=e;cases hc:lt (pt p n) (pt p (n - 1)) with
  | true=>
   rw [hc,if_pos rfl] at e1;have e':n=m:=e1;subst e';exact ⟨Nat.le_refl _,by lia,h,λ_=>hc⟩
  | false=>
   rw [hc,if_neg (by simp)] at e1;have h':Srt lt p (n + 1):=λi j hij hj=>by
    by_cases e:j < n
    ·exact h i j hij e
    ·have e':j=n:=by lia
     subst e';by_cases e2:i=j
     ·rw [e2];exact o.refl _
     ·exact o.tr (h i (j - 1) (by lia) (by lia)) hc
   obtain ⟨a,b,c,d⟩:=ZCM o p f (n + 1) (by lia) h' m e1;exact ⟨by lia,by lia,c,λz=>d (by lia)⟩
structure Dn (lt:Nat->Nat->Bool) (p:Array Nat) (n q:Nat):Prop where
 ni:NIn lt p n
 al:∀i j,n - (q + 1)<=i->i < n->n - (q + 1)<=j->j < n->lt (pt p i) (pt p j)=false
 qn:q + 1<=n
theorem NIn.rev {p:Array Nat} {n q:Nat} (d:Dn lt p n q) (hn:n<=p.size):NIn lt (kas_rev p (n - (q + 1)) n) n:=λi j hij hj=>by
 have:=d.qn;rw [J6 hn,J6 hn];by_cases h1:n - (q + 1)<=i
 ·rw [if_pos ⟨h1,by lia⟩,if_pos ⟨by lia,hj⟩];exact d.al _ _ (by lia) (by lia) (by lia) (by lia)
 ·rw [if_neg (by lia)];by_cases h2:n - (q + 1)<=j
  ·rw [if_pos ⟨h2,hj⟩];exact d.ni _ _ (by lia) (by lia)
  ·rw [if_neg (by lia)];exact d.ni i j hij hj
theorem W0 (o:WO lt):∀f (p:Array Nat) n q,n + f<=p.size->Dn lt p n q->∀r,Bv lt (kas_desc f p n q)=r->r.1.Perm p/\r.2.1<=n + f/\n<=r.2.1/\Dn lt r.1 r.2.1 r.2.2
 | 0,p,n,q,hz,d,r,e=>by have e':(p,n,q)=r:=e;subst e';exact ⟨.refl _,Nat.le_refl _,Nat.le_refl _,d⟩
 | f + 1,p,n,q,hz,d,r,e=>by
  have qn:=d.qn;unfold kas_desc at e;have e1:Bv lt (if lt (pt p n) (pt p (n - 1))=true then (if q > 0 then kas_desc f (kas_rev p (n - (q + 1)) n) (n + 1) 0 else kas_desc f p (n + 1) 0)
   else .ask (p.getD (n - 1) 0) (p.getD n 0) λd=>if d=true then .ret (p,n,q) else kas_desc f p (n + 1) (q + 1))=r:=e
  clear e;cases hc:lt (pt p n) (pt p (n - 1)) with
  | true=>
   rw [hc,if_pos rfl] at e1;have ext:∀p':Array Nat,NIn lt p' n->pt p' n=pt p n->(∀k,k < n->lt (pt p n) (pt p' k)=true∨k < n)->lt (pt p' (n - 1)) (pt p' n)=false->Dn lt p' (n + 1) 0:=λp' hni _ _ hl=>by
    refine ⟨λi j hij hj=> ?_,λi j h1 h2 h3 h4=> ?_,by lia⟩
    ·by_cases e:j < n
     ·exact hni i j hij e
     ·have e':j=n:=by lia
      subst e';by_cases e2:i=j
      ·rw [e2];exact o.refl _
      ·exact o.tr hl (hni i (j - 1) (by lia) (by lia))
    ·have e1:i=n:=by lia
     have e2:j=n:=by lia
     rw [e1,e2];exact o.refl _
   by_cases hq:q > 0
   ·rw [if_pos hq] at e1;have hl:lt (pt (kas_rev p (n - (q + 1)) n) (n - 1)) (pt (kas_rev p (n - (q + 1)) n) n)=false:=by
     rw [J6 (by lia),J6 (by lia),if_pos (by lia),if_neg (by lia)];cases hx:lt (pt p (n - (q + 1) + n - 1 - (n - 1))) (pt p n)
     ·rfl
     ·rcases o.neg _ (pt p (n - 1)) _ hx with z | z
      ·rw [d.al _ _ (by lia) (by lia) (by lia) (by lia)] at z;cases z
      ·rw [o.asy _ _ hc] at z;cases z
    obtain ⟨a,b,c,dd⟩:=W0 o f _ (n + 1) 0 (by rw [kas_rev,mirror_size];lia) (ext _ (NIn.rev d (by lia)) (by rw [J6 (by lia),if_neg (by lia)]) (λk hk=>.inr hk) hl) r e1;exact ⟨a.trans (mirror_perm ..),by lia,by lia,dd⟩
   ·rw [if_neg hq] at e1;obtain ⟨a,b,c,dd⟩:=W0 o f p (n + 1) 0 (by lia) (ext p d.ni rfl (λk hk=>.inr hk) (o.asy _ _ hc)) r e1;exact ⟨a,by lia,by lia,dd⟩
  | false=>
   rw [hc,if_neg (by simp)] at e1;have e2:Bv lt (if lt (pt p (n - 1)) (pt p n)=true then .ret (p,n,q) else kas_desc f p (n + 1) (q + 1))=r:=e1;cases hd:lt (pt p (n - 1)) (pt p n) with
   | true=>
    rw [hd,if_pos rfl] at e2;have e3:(p,n,q)=r:=e2;subst e3;exact ⟨.refl _,by show n<=_;lia,Nat.le_refl _,d⟩
   | false=>
    rw [hd,if_neg (by simp)] at e2;have al':∀i,n - (q + 1)<=i->i < n + 1->lt (pt p i) (pt p n)=false/\lt (pt p n) (pt p i)=false:=λi h1 h2=>by
     by_cases e:i=n
     ·rw [e];exact ⟨o.refl _,o.refl _⟩
     ·exact ⟨o.tr hd (d.al i (n - 1) h1 (by lia) (by lia) (by lia)),o.tr (d.al (n - 1) i (by lia) (by lia) h1 (by lia)) hc⟩
    obtain ⟨a,b,c,dd⟩:=W0 o f p (n + 1) (q + 1) (by lia) ⟨λi j hij hj=>by
     by_cases e:j < n
     ·exact d.ni i j hij e
     ·have e':j=n:=by lia
      subst e';by_cases e2:i=j
      ·rw [e2];exact o.refl _
      ·exact o.tr hd (d.ni i (j - 1) (by lia) (by lia)),λi j h1 h2 h3 h4=>by
     by_cases ei:i=n
     ·rw [ei];exact (al' j (by lia) h4).2
     ·by_cases ej:j=n
      ·rw [ej];exact (al' i (by lia) h2).1
      ·exact d.al i j (by lia) (by lia) (by lia) (by lia),by lia⟩ r e2
    exact ⟨a,by lia,by lia,dd⟩
theorem ZGU (o:WO lt) {p:Array Nat} {n:Nat} (h1:1<=n) (hn:n<=nrem) (hz:nrem<=p.size) (d:NIn lt p n):∀r,Bv lt (kas_tail3 n nrem p)=r->r.2.Perm p/\r.1<=nrem/\1<=r.1/\Srt lt r.2 r.1:=by
 intro r e;unfold kas_tail3 at e;rw [Ov] at e;have s0:Srt lt (kas_rev p 0 n) n:=λi j hij hj=>by rw [J6 (by lia),J6 (by lia),if_pos (by lia),if_pos (by lia)];exact d _ _ (by lia) (by lia)
 obtain ⟨a,b,c,_⟩:=ZCM o (kas_rev p 0 n) (nrem - n) n h1 s0 _ rfl;have e':(Bv lt (kas_asc (kas_rev p 0 n) (nrem - n) n),kas_rev p 0 n)=r:=e;subst e';exact ⟨mirror_perm ..,by show Bv lt (kas_asc (kas_rev p 0 n) (nrem - n) n)<=nrem;lia,by show 1<=Bv lt (kas_asc (kas_rev p 0 n) (nrem - n) n);lia,c⟩
theorem ZIu (o:WO lt) {p:Array Nat} {n:Nat} (h1:1<=n) (hn:n < nrem) (hz:nrem<=p.size) (al:∀i j,i < n->j < n->lt (pt p i) (pt p j)=false) (hl:lt (pt p n) (pt p (n - 1))=true):
  ∀r,Bv lt (kas_descPart n nrem p)=r->r.2.Perm p/\r.1<=nrem/\1<=r.1/\Srt lt r.2 r.1:=by
 intro r e;unfold kas_descPart at e;rw [Ov] at e;have d0:Dn lt p (n + 1) 0:=⟨λi j hij hj=>by
  by_cases e:j < n
  ·exact al i j (by lia) e
  ·have e':j=n:=by lia
   subst e';by_cases e2:i=j
   ·rw [e2];exact o.refl _
   ·exact o.tr (o.asy _ _ hl) (al i (j - 1) (by lia) (by lia)),λi j _ _ _ _=>by
  have e1:i=n:=by lia
  have e2:j=n:=by lia
  rw [e1,e2];exact o.refl _,by lia⟩
 obtain ⟨a,b,c,dd⟩:=W0 o (nrem - (n + 1)) p (n + 1) 0 (by lia) d0 _ rfl
 revert a b c dd e
 generalize Bv lt (kas_desc (nrem - (n + 1)) p (n + 1) 0)=x;intro e a b c dd;have hx:x.1.size=p.size:=a.size_eq;split at e
 ·obtain ⟨a',b',c',d'⟩:=ZGU o (by lia) (by lia) (by rw [kas_rev,mirror_size];lia) (NIn.rev dd (by lia)) r e;exact ⟨(a'.trans (mirror_perm ..)).trans a,b',c',d'⟩
 ·obtain ⟨a',b',c',d'⟩:=ZGU o (by lia) (by lia) (by lia) dd.ni r e;exact ⟨a'.trans a,b',c',d'⟩
theorem ZSQ (o:WO lt) {p:Array Nat} (h1:1<=nrem) (hz:nrem<=p.size):∀r,Bv lt (kas_count nrem p)=r->r.2.Perm p/\r.1<=nrem/\1<=r.1/\Srt lt r.2 r.1:=by
 intro r e;unfold kas_count at e;rw [Ov] at e;obtain ⟨a,b,c,d⟩:=ZCM o p (nrem - 1) 1 (Nat.le_refl _) (λi j hij hj=>by
  have e1:i=0:=by lia
  have e2:j=0:=by lia
  rw [e1,e2];exact o.refl _) _ rfl
 revert a b c d e
 generalize Bv lt (kas_asc p (nrem - 1) 1)=n;intro e a b c d;split at e
 ·have e':(n,p)=r:=e;subst e';exact ⟨.refl _,by show n<=nrem;lia,a,c⟩
 ·rename_i hne;have hn:n < nrem:=by
   have:n≠nrem:=by simpa using hne
   lia
  have hl:=d (by lia);split at e
  ·rename_i hgt;have e':Bv lt (if lt (pt p 0) (pt p (n - 1))=true then .ret (n,p) else kas_descPart n nrem (kas_rev p 0 n))=r:=e;cases hc:lt (pt p 0) (pt p (n - 1)) with
   | true=>
    rw [hc,if_pos rfl] at e';have e2:(n,p)=r:=e';subst e2;exact ⟨.refl _,by show n<=nrem;lia,a,c⟩
   | false=>
    rw [hc,if_neg (by simp)] at e';have al:∀i j,i < n->j < n->lt (pt p i) (pt p j)=false:=λi j hi hj=>o.tr (c j (n - 1) (by lia) (by lia) |> λz=>z) (o.tr hc (c 0 i (by lia) hi) |> λz=>by exact z)
    obtain ⟨a',b',c',d'⟩:=ZIu o (p:=kas_rev p 0 n) a hn (by rw [kas_rev,mirror_size];lia) (λi j hi hj=>by
     rw [J6 (by lia),J6 (by lia),if_pos (by lia),if_pos (by lia)];exact al _ _ (by lia) (by lia)) (by
     rw [J6 (by lia),J6 (by lia),if_neg (by lia),if_pos (by lia)];rcases o.neg _ (pt p (0 + n - 1 - (n - 1))) _ hl with z | z
     ·exact z
     ·rw [al _ _ (by lia) (by lia)] at z;cases z) r e'
    exact ⟨a'.trans (mirror_perm ..),b',c',d'⟩
  ·have e1:n=1:=by lia
   subst e1;exact ZIu o (Nat.le_refl _) hn hz (λi j hi hj=>by
    have e1:i=0:=by lia
    have e2:j=0:=by lia
    rw [e1,e2];exact o.refl _) hl r e
theorem ZFS (o:WO lt) (p:Array Nat) (k:Nat) (hs:Srt lt p k):∀f l r,r - l<=f->l<=r->r<=k->(∀i,i < l->lt (pt p k) (pt p i)=false)->(∀i,r<=i->i < k->lt (pt p k) (pt p i)=true)->
  ∀m,Bv lt (kas_place p k f l r)=m->m<=k/\(∀i,i < m->lt (pt p k) (pt p i)=false)/\(∀i,m<=i->i < k->lt (pt p k) (pt p i)=true)
 | 0,l,r,hf,hlr,hr,h1,h2,m,e=>by have e':l=m:=e;subst e';exact ⟨by lia,h1,λi hi hk=>h2 i (by lia) hk⟩
 | f + 1,l,r,hf,hlr,hr,h1,h2,m,e=>by
  unfold kas_place at e;split at e
  ·have e':l=m:=e;subst e';exact ⟨by lia,h1,λi hi hk=>h2 i (by lia) hk⟩
  ·rename_i hlt;have e':Bv lt (if lt (pt p k) (pt p ((l + r) / 2))=true then kas_place p k f l ((l + r) / 2) else kas_place p k f ((l + r) / 2 + 1) r)=m:=e;cases hc:lt (pt p k) (pt p ((l + r) / 2)) with
   | true=>
    rw [hc,if_pos rfl] at e';refine ZFS o p k hs f l ((l + r) / 2) (by lia) (by lia) (by lia) h1 (λi hi hk=> ?_) m e';rcases o.neg _ (pt p i) _ hc with z | z
    ·exact z
    ·rw [hs _ i hi hk] at z;cases z
   | false=>
    rw [hc,if_neg (by simp)] at e';exact ZFS o p k hs f ((l + r) / 2 + 1) r (by lia) (by lia) hr (λi hi=>o.tr (hs i ((l + r) / 2) (by lia) (by lia)) hc) h2 m e'
theorem ZHj (o:WO lt):∀f (p:Array Nat) k,k + f=p.size->Srt lt p k->(Bv lt (kas_bin f p k)).Perm p/\Srt lt (Bv lt (kas_bin f p k)) p.size
 | 0,p,k,hz,hs=>⟨.refl _,by
  have:k=p.size:=by lia
  rw [<-this];exact hs⟩
 | f + 1,p,k,hz,hs=>by
  unfold kas_bin;rw [Ov];obtain ⟨hm,h1,h2⟩:=ZFS o p k hs k 0 k (by lia) (by lia) (Nat.le_refl _) (λi hi=>by lia) (λi hi hk=>by lia) _ rfl
  revert hm h1 h2
  generalize Bv lt (kas_place p k k 0 k)=m;intro hm h1 h2;have sz:(bubble p k (k - m)).size=p.size:=bubble_size ..;have hk:k < p.size:=by lia
  have e:∀j,pt (bubble p k (k - m)) j=if j=m then pt p k else if m < j/\j<=k then pt p (j - 1) else pt p j:=λj=>by
   rw [ZLr hk (by lia)];have:k - (k - m)=m:=by lia
   rw [this]
  obtain ⟨a,b⟩:=ZHj o f (bubble p k (k - m)) (k + 1) (by lia) (λi j hij hj=>by
   rw [e i,e j];by_cases ji:j=m
   ·rw [if_pos ji];by_cases ii:i=m
    ·rw [if_pos ii];exact o.refl _
    ·rw [if_neg ii,if_neg (by lia)];exact h1 i (by lia)
   ·rw [if_neg ji];by_cases jm:m < j
    ·rw [if_pos ⟨jm,by lia⟩];by_cases ii:i=m
     ·rw [if_pos ii];exact o.asy _ _ (h2 _ (by lia) (by lia))
     ·rw [if_neg ii];by_cases im:m < i
      ·rw [if_pos ⟨im,by lia⟩];exact hs _ _ (by lia) (by lia)
      ·rw [if_neg (by lia)];exact hs _ _ (by lia) (by lia)
    ·rw [if_neg (by lia),if_neg (by lia),if_neg (by lia)];exact hs i j hij (by lia))
  rw [sz] at b;exact ⟨a.trans (bubble_perm ..),b⟩
theorem ZDt (o:WO lt) {n:Nat} (hn:1<=n):(Bv lt (kas_sort n)).toList.Perm (List.range n)/\Srt lt (Bv lt (kas_sort n)) n:=by
 unfold kas_sort;rw [Ov];obtain ⟨a,b,c,d⟩:=ZSQ o (p:=(List.range n).toArray) (nrem:=n) hn (by simp) _ rfl
 revert a b c d
 generalize Bv lt (kas_count n (List.range n).toArray)=x;intro a b c d;have hx:x.2.size=n:=by rw [a.size_eq];simp
 split
 ·have e:max x.1 1=x.1:=by lia
  rw [e];obtain ⟨a',b'⟩:=ZHj o (n - x.1) x.2 x.1 (by lia) d;rw [hx] at b';exact ⟨by simpa using (a'.trans a).toList,b'⟩
 ·have e:x.1=n:=by lia
  rw [e] at d;exact ⟨by simpa [Bv] using a.toList,d⟩
end
end DL
namespace DL
open PySem PySem.Spec L2
open PyProof.Rows hiding St
variable {pins:List (Addr×Obj)} {σ:St} {H:Hp} {s:Shared} {w:World} {K:PySem.W.Frag} {elts:List Expr} {i:Nat} {a:Wd} {ta:DA}
section
variable {X:Cx} {pins:List (Addr×Obj)} {σ:St} {H:Hp} {s:Shared} {h':Heap}
theorem ZDp {t':Nat} {fp:List Addr} (I:Inv X pins σ H s) (k:∀b o,b ∉ fp->s.heap.get? b=some o->h'.get? b=some o) (hf:∀b∈fp,FpOk X pins H b):Inv X pins σ H {s with heap:=h',toks:=t'}:=by
 have nit:∀b u,H b=some u->b ∉ fp:=λb u e z=>by rw [(hf b z).1] at e;cases e
 refine I.step (g':=s.gens) (d':=s.drawn) (ch:=fp) (λb hb=> ?_) (λb o _ _ hc e _=>k b o hc e) (λb o _ _ hc e _=>⟨o.slots,k b o hc e⟩) (λ_ _ _ _ n=>n)
  (λb o hc e=>⟨o,k b o hc e⟩) (λ_ _ e=>e) (λ_ _ _ e=>e) (λb ps e=>⟨#[],by rw [e];simp⟩) (λm hm=> ?_) (λb u e=> ?_) I.bare
 ·obtain ⟨f0,f1,f2,f3,f4,f5⟩:=hf b hb;exact ⟨f3,f1,f4,f5⟩
 ·obtain ⟨o,es,ep,ho,r⟩:=hm;exact ⟨o,es,ep,k _ o (λz=>(hf _ z).2.1 rfl) ho,r⟩
 ·refine (I.hok b u e).stay (λc v hc q=>k c v ?_ q) (λ_ q=>q) λ_ _ q=>q
  rcases hc with z | z
  ·rw [z];exact nit b u e
  ·exact nit c _ z
theorem ZJZ {t':Nat} {fp:List Addr} {p:Addr} {xs:List V} {its:List Value} (I:Inv X pins σ H s) (k:∀b o,b ∉ fp->s.heap.get? b=some o->h'.get? b=some o) (hf:∀b∈fp,FpOk X pins H b) (hp:s.heap.objs.size<=p)
  (hz:xs.length<=sizeLine) (r:Vals xs its) (ht:Tp h' p its):Inv X pins σ (upd H p (.tup xs)) {s with heap:=h',toks:=t'}:=by
 obtain ⟨g0,g1,g2,g3,g4,g5⟩:=I.Ks (H':=H) hp (I.hok.fresh hp);exact ZFH (ZDp I k hf) g0 (Nat.le_trans I.sz hp) g1 g4 g5 ⟨hz,its,r,_,ht,rfl,_,rfl⟩
end
noncomputable def Src.sq (K:PySem.W.Frag) (H:Hp) (xs:List V):Src->Prop
 | .l a=>SqL K H a xs
 | .t a=>SqT K H a xs
variable {sr:Src} {ls:List Src}
theorem Src.sq.val {X:Cx} {xs:List V} (I:Inv X pins σ H s) (h:sr.sq X.K H xs):∃its:List Value,Vals xs its/\sr.val s.heap its.toArray/\xs.length<=sizeLine:=by
 cases sr with
 | l a=>obtain ⟨its,r,p,hz⟩:=I.list h;exact ⟨its,r,p.isList,hz⟩
 | t a=>obtain ⟨its,r,p,hz⟩:=I.tuple h;exact ⟨its,r,p,hz⟩
theorem Src.sq.inj {X:Cx} {xs ys:List V} (I:Inv X pins σ H s) (h:sr.sq X.K H xs) (h':sr.sq X.K H ys):xs=ys:=by
 cases sr with
 | l a=>exact I.ZC7 h h'
 | t a=>exact I.ZC4 h h'
noncomputable def Ite (K:PySem.W.Frag) (sr:Src) (n:Int):It:=
 ⟨λi H=>∃xs x,sr.sq K H xs/\xs[i]? =some x,λi H v H'=>∃p x,v=.ref p/\H p=none/\H'=upd H p (.tup [.int (n + i),x])/\∀xs,sr.sq K H xs->xs[i]? =some x,λi H=>∃xs,sr.sq K H xs/\xs.length<=i⟩
theorem ZKA {P:Program} {x1} {pos:Pos} (sr:Src) (n:Int) (e it:Addr) (hne:e≠it):
  Turn P w K (.Tuple elts x1 pos) (Ite K sr n) [e,it] e (λi h=>∃g old,En h e it .none (n + i) g old/\Gv (n + i) g/\sr.it h it i) where
 mem:=by simp
 obj:=λi h st b hb=>by
  obtain ⟨g,old,he,_,o,ho,_,hd⟩:=st;rcases (show b=e∨b=it by simpa using hb) with rfl | rfl
  ·exact ⟨_,he,λv z=>by cases z⟩
  ·exact ⟨o,ho,λv z=>by rw [hd] at z;cases z⟩
 keep:=λi h h' st k=>by obtain ⟨g,old,he,hg,hi⟩:=st;exact ⟨g,old,k e (by simp) _ he,hg,hi.at λo q=>k it (by simp) o q⟩
 item:=by
  intro X hP hw hK hc i pins s σ H E I hf st hg;subst hP hw hK;obtain ⟨xs,x,hq,hx⟩:=hg;obtain ⟨its,rv,hv,hz⟩:=Src.sq.val I hq;obtain ⟨u,hu,ru⟩:=rv.get hx;obtain ⟨g,old,he,hgv,hi⟩:=st;refine ZQS he hgv hi hv (x:=u) (by simpa using hu) hne λh1 t tk e1 i1 t1 z1 k1=>⟨_,rfl,?_⟩
  refine ZN5 (s:={s with heap:=h1,toks:=tk}) e1 λh2 e2 sb=> ?_
  have hpe:s.heap.objs.size≠e:=Nat.ne_of_gt (Heap.lt_size he);have I2:Inv X pins σ (upd H s.heap.objs.size (.tup [.int (n + i),x])) {s with heap:=h2,toks:=tk}:=
   ZJZ (fp:= [e,it]) (its:= [.int (n + i) t,u]) I (λb o hb q=>by
    have hb':b≠e/\b≠it:=by simpa using hb
    exact sb.extBut b o hb'.1 (k1 b o hb'.1 hb'.2 q)) hf (Nat.le_refl _) (by show 2<=sizeLine;decide) (.cons ⟨t,rfl⟩ (.cons ru .nil)) (sb.extBut _ _ hpe t1)
  have hfr:H s.heap.objs.size=none:=I.hok.fresh (Nat.le_refl _);refine ⟨.ref s.heap.objs.size,_,I2,rfl,⟨_,x,rfl,hfr,rfl,λys hy=>by rw [Src.sq.inj I hy hq];exact hx⟩,⟨.none,u,?_,.inl rfl,i1.at λo q=>sb.extBut _ _ (Ne.symm hne) q⟩,λb hb=> ?_⟩
  ·have ee:n + (i:Int) + 1=n + ((i + 1:Nat):Int):=by lia
   rw [<-ee];exact e2
  ·have hb':b=e∨b=it:=by simpa using hb
   rw [Az (λz=> ?_)]
   ·exact (hf b hb).1
   ·rcases hb' with rfl | rfl
    ·exact hpe z.symm
    ·have hlt:=Src.it.lt hi;rw [z] at hlt;exact Nat.lt_irrefl _ hlt
 done:=by
  intro X hP hw hK hc i pins s σ H E I hf st hg;subst hP hw hK;obtain ⟨xs,hq,hx⟩:=hg;obtain ⟨its,rv,hv,hz⟩:=Src.sq.val I hq;obtain ⟨g,old,he,hgv,hi⟩:=st;have hl:=rv.length;refine ZLL (I.ok.hd hc) he hi hv (by simp;lia) λh1 xb=>⟨rfl,?_⟩
  exact ZDp (t':=s.toks) (fp:= [e,it]) I (λb o hb q=>xb b o (λz=>hb (by simp [z])) q) hf
 self:=λ_ _ _ _ _ st h=>by obtain ⟨g,old,he,_⟩:=st;exact ZIR he h
section
variable {X:Cx} {E:XK}
theorem ZM3 {prog:Program} {A:Around} {E:Value->Shared->Prop} {xs:Array Value} {Q:Value->Shared->Prop} (hv:sr.val s.heap xs)
  (h:∀h',En h' (s.heap.objs.size + 1) s.heap.objs.size .none 0 .none .none->sr.it h' s.heap.objs.size 0->(∀b o,s.heap.get? b=some o->h'.get? b=some o)->Q (.ref (s.heap.objs.size + 1)) {s with heap:=h'}):
  wpAny (model prog w) A (call (.type "enumerate") [.ref sr.adr]) Q E s:=by
 have g:Meets (Builtin.«enumerate.__new__» ⟨[.type "enumerate",.ref sr.adr],[]⟩) (λ_ R s=>sr.val s.heap xs/\
   R (.ok (.ret (.ref (s.heap.push {cls:=.type sr.itn,data:=.fields #[.ref sr.adr,.int 0 0]}).objs.size)))
    {s with heap:=(s.heap.push {cls:=.type sr.itn,data:=.fields #[.ref sr.adr,.int 0 0]}).push {cls:=.type "enumerate",data:=.fields #[.none,.bool false,.ref s.heap.objs.size,rawInt 0,.none,.none]}}):=
  .of_wp λprog w A R s h=>by
   obtain ⟨hp,g,d,tk,os⟩:=s;obtain ⟨hl,h⟩:=h;have hsub:=sub_enumerate;have hL:sr.val (Shared.heap ⟨hp,g,d,tk,os⟩) xs:=hl
   wp_walk
   refine wpAny_stack_any λst=>wpAny_pure ?_
   split
   ·rename_i c _ _ _ _ _
    cases (c == Value.type "enumerate") <;> (wp_walk using Src.iter hL;exact ⟨_,rfl,h⟩)
   ·wp_walk using Src.iter hL
    exact ⟨_,rfl,h⟩
 refine callType_new PySem.F.called_enumerate (by decide) (PySem.F.typeCall_enumerate_1 _) (PySem.F.newCall_enumerate_1 _) (λobj=>PySem.F.args_object_init_2 obj _) PySem.F.entry_enumerate_new g ⟨hv,?_⟩;have hz:(s.heap.push {cls:=.type sr.itn,data:=.fields #[.ref sr.adr,.int 0 0]}).objs.size=s.heap.objs.size + 1:=Heap.size_push ..;show _/\_;rw [hz];have he:En ((s.heap.push {cls:=.type sr.itn,data:=.fields #[.ref sr.adr,.int 0 0]}).push {cls:=.type "enumerate",data:=.fields #[.none,.bool false,.ref s.heap.objs.size,rawInt 0,.none,.none]}) (s.heap.objs.size + 1) s.heap.objs.size .none 0 .none .none:=by
  have:=Heap.get?_push_size (s.heap.push {cls:=.type sr.itn,data:=.fields #[.ref sr.adr,.int 0 0]}) (o:={cls:=.type "enumerate",data:=.fields #[.none,.bool false,.ref s.heap.objs.size,rawInt 0,.none,.none]}) rfl;rw [hz] at this;exact this
 exact ⟨⟨_,he,rfl⟩,h _ he ⟨_,Heap.get?_push_of_some _ (Heap.get?_push_size _ rfl),rfl,rfl⟩ λb o x=>Heap.get?_push_of_some _ (Heap.get?_push_of_some _ x)⟩
noncomputable def ZKZ (K:PySem.W.Frag) (ta:TA):TI:=λσ H R=>ta σ H λvs H1=>∃sr xs,vs= [.ref (Src.adr sr)]/\sr.sq K H1 xs/\R (Ite K sr 0) H1
theorem ZM1 {elts:List Expr} {x1} {tp:Pos} {a:Expr} {ta:TA} {p pos:Pos} (hg:Gl X "enumerate") (hm:X.mg "enumerate"=none) (ha:PA X [a] ta) (hs:starEach [a] X.env= [(false,eval a X.env)]:=by rfl):PI X (.Tuple elts x1 tp) (.Call (.Name "enumerate" p) [a] [] pos) (ZKZ X.K ta):=by
 intro pins s σ H R I h;refine Call_ (Jg I hg hm PyProof.Rows.boot_enumerate (PyProof.Rows.callWith_type1 (thn (ha pos pins s σ H _ I h) λus s1 ⟨vs,H1,I1,r1,q1⟩=> ?_) hs rfl));obtain ⟨sr,xs,e,hq,q⟩:=q1;subst e;cases r1 with
 | cons r rr=>
  cases rr;cases r;obtain ⟨its,rv,hv,hz⟩:=Src.sq.val I1 hq;refine ZM3 hv λh' he hi kp=> ?_
  refine ZIR he ?_;have I2:Inv X pins σ H1 {s1 with heap:=h'}:=I1.kept (t':=s1.toks) kp;refine ⟨s1.heap.objs.size + 1,[s1.heap.objs.size + 1,s1.heap.objs.size],_,_,H1,rfl,I2,ZKA sr 0 _ _ (Nat.succ_ne_self _),⟨.none,.none,by simpa using he,.inl rfl,hi⟩,λb hb=> ?_,q⟩;have hb':b=s1.heap.objs.size + 1∨b=s1.heap.objs.size:=by simpa using hb
  have hle:s1.heap.objs.size<=b:=by rcases hb' with rfl | rfl <;> lia
  exact I1.Ks hle (I1.hok.fresh hle)
end
inductive DrV (K:PySem.W.Frag) (H:Hp) (i:Nat):List Src->List V->Prop where
 | nil:DrV K H i [] []
 | cons {sr r v us xs} (hq:Src.sq K H xs sr) (hx:xs[i]? =some v) (t:DrV K H i r us):DrV K H i (sr::r) (v::us)
inductive StV (K:PySem.W.Frag) (H:Hp) (i:Nat):List Src->Prop where
 | here {sr r xs} (hq:Src.sq K H xs sr) (hx:xs.length<=i):StV K H i (sr::r)
 | there {sr r v xs} (hq:Src.sq K H xs sr) (hx:xs[i]? =some v) (t:StV K H i r):StV K H i (sr::r)
noncomputable def Itz (K:PySem.W.Frag) (ls:List Src):It:=
 ⟨λi H=>∃us,DrV K H i ls us,λi H v H'=>∃p us,v=.ref p/\H p=none/\H'=upd H p (.tup us)/\∀us',DrV K H i ls us'->us'=us,λi H=>StV K H i ls⟩
theorem DrV.length {us:List V} (d:DrV K H i ls us):us.length=ls.length:=by
 induction d with
 | nil=>rfl
 | cons _ _ _ ih=>simp [ih]
section
variable {X:Cx} {pins:List (Addr×Obj)} {σ:St} {H:Hp} {s:Shared}
theorem DrV.inj (I:Inv X pins σ H s) :∀{ls:List Src} {us us':List V},DrV X.K H i ls us->DrV X.K H i ls us'->us=us'
 | [],_,_,d,d'=>by cases d;cases d';rfl
 | sr::ls,_,_,d,d'=>by
  cases d with
  | cons hq hx t=>
   cases d' with
   | cons hq' hx' t'=>
    have e:=Src.sq.inj I hq hq';subst e;rw [hx] at hx';cases hx';rw [DrV.inj I t t']
theorem DrV.drw (I:Inv X pins σ H s) :∀{l:List (Src×Addr)} {us:List V},DrV X.K H i (l.map (·.1)) us->(∀q∈l,q.1.it s.heap q.2 i)->∃ws,Drw s.heap i l ws/\Vals us ws
 | [],us,d,h=>by cases d;exact ⟨[],.nil,.nil⟩
 | (sr,p)::l,us,d,h=>by
  cases d with
  | cons hq hx t=>
   obtain ⟨its,rv,hv,hz⟩:=Src.sq.val I hq;obtain ⟨u,hu,ru⟩:=rv.get hx;obtain ⟨ws,d',r'⟩:=DrV.drw I t λq hq=>h q (List.mem_cons_of_mem _ hq)
   exact ⟨u::ws,.cons (h (sr,p) List.mem_cons_self) hv (by simpa using hu) d',.cons ru r'⟩
theorem StV.drw (I:Inv X pins σ H s) :∀{l:List (Src×Addr)},StV X.K H i (l.map (·.1))->(∀q∈l,q.1.it s.heap q.2 i)->DrwE s.heap i l
 | [],d,h=>by cases d
 | (sr,p)::l,d,h=>by
  cases d with
  | here hq hx=>
   obtain ⟨its,rv,hv,hz⟩:=Src.sq.val I hq;have hl:=rv.length;exact .here (h (sr,p) List.mem_cons_self) hv (by simp;lia)
  | there hq hx t=>
   obtain ⟨its,rv,hv,hz⟩:=Src.sq.val I hq;obtain ⟨u,hu,ru⟩:=rv.get hx;exact .there (h (sr,p) List.mem_cons_self) hv (by simpa using hu) (StV.drw I t λq hq=>h q (List.mem_cons_of_mem _ hq))
end
theorem ZRK {P:Program} {x1} {pos:Pos} (l:List (Src×Addr)) (z TI TO:Addr) (a:ApZ TO l) (zz:z≠TO/\(∀q∈l,q.2≠z/\q.1.adr≠z)) (tt:TI≠z/\TI≠TO/\∀q∈l,q.2≠TI) (hsz:l.length<=1000000) (hne:l≠ []):
  Turn P w K (.Tuple elts x1 pos) (Itz K (l.map (·.1))) (z::TI::TO::l.map (·.2)) z
   (λi h=>IsZip h z TI TO .none/\Tp h TI (l.map λq=>Value.ref q.2)/\(∃os,Tp h TO os/\os.length=l.length)/\∀q∈l,q.1.it h q.2 i) where
 mem:=by simp
 obj:=λi h st b hb=>by
  obtain ⟨hz,hTI,⟨os,hTO,_⟩,hi⟩:=st;rcases List.mem_cons.mp hb with rfl | hb
  ·exact ⟨_,hz,λv z=>by cases z⟩
  ·rcases List.mem_cons.mp hb with rfl | hb
   ·exact ⟨_,hTI,λv z=>by cases z⟩
   ·rcases List.mem_cons.mp hb with rfl | hb
    ·exact ⟨_,hTO,λv z=>by cases z⟩
    ·obtain ⟨q,hq,rfl⟩:=List.mem_map.mp hb;obtain ⟨o,ho,_,hd⟩:=hi q hq;exact ⟨o,ho,λv z=>by rw [hd] at z;cases z⟩
 keep:=λi h h' st k=>by obtain ⟨hz,hTI,⟨os,hTO,ho⟩,hi⟩:=st;exact ⟨k z (by simp) _ hz,k TI (by simp) _ hTI,⟨os,k TO (by simp) _ hTO,ho⟩,λq hq=>(hi q hq).at λo e=>k q.2 (by simp only [List.mem_cons];exact .inr (.inr (.inr (List.mem_map.mpr ⟨q,hq,rfl⟩)))) o e⟩
 item:=by
  intro X hP hw hK hc i pins s σ H E I hf st hg;subst hP hw hK;obtain ⟨us,dv⟩:=hg;obtain ⟨hz,hTI,⟨os,hTO,ho⟩,hi⟩:=st;obtain ⟨ws,dw,rv⟩:=DrV.drw I dv hi;refine ZNq hz hTI hTO ho hsz hne a zz dw λh1 z1 t1 i1 p1 s1 k1=>⟨_,rfl,?_⟩
  refine wpAny_letOwnedTupleGo_zip (s:={s with heap:=h1}) z1 λh2 z2 sb=> ?_
  have hpz:s.heap.objs.size≠z:=Nat.ne_of_gt (Heap.lt_size hz);have hul:us.length<=sizeLine:=by rw [dv.length,List.length_map];exact Nat.le_trans hsz size6
  have I2:Inv X pins σ (upd H s.heap.objs.size (.tup us)) {s with heap:=h2}:=
   ZJZ (t':=s.toks) (fp:=z::TI::TO::l.map (·.2)) (its:=ws) I (λb o hb q=>by simp only [List.mem_cons,not_or] at hb;exact sb.extBut b o hb.1 (k1 b o hb.1 hb.2.2.1 hb.2.2.2 q)) hf (Nat.le_refl _) hul rv (sb.extBut _ _ hpz p1)
  have hfr:H s.heap.objs.size=none:=I.hok.fresh (Nat.le_refl _)
  have up:∀b o,b≠z->b≠TO->b ∉ l.map (·.2)->s.heap.get? b=some o->h2.get? b=some o:=λb o b1 b2 b3 q=>sb.extBut b o b1 (k1 b o b1 b2 b3 q)
  refine ⟨.ref s.heap.objs.size,_,I2,rfl,⟨_,us,rfl,hfr,rfl,λus' d'=>DrV.inj I d' dv⟩,⟨z2,up TI _ tt.1 tt.2.1 (λhm=> ?_) hTI,⟨ws,sb.extBut _ _ (Ne.symm zz.1) t1,dw.length⟩,λq hq=>(i1 q hq).at λo e=>sb.extBut _ _ (zz.2 q hq).1 e⟩,λb hb=> ?_⟩
  ·obtain ⟨q,hq,e⟩:=List.mem_map.mp hm;exact tt.2.2 q hq e
  ·rw [Az (λe=> ?_)]
   ·exact (hf b hb).1
   ·have lt:b < s.heap.objs.size:=by
     rcases List.mem_cons.mp hb with rfl | hb
     ·exact Heap.lt_size hz
     ·rcases List.mem_cons.mp hb with rfl | hb
      ·exact Heap.lt_size hTI
      ·rcases List.mem_cons.mp hb with rfl | hb
       ·exact Heap.lt_size hTO
       ·obtain ⟨q,hq,rfl⟩:=List.mem_map.mp hb;exact (hi q hq).lt
    rw [e] at lt;exact Nat.lt_irrefl _ lt
 done:=by
  intro X hP hw hK hc i pins s σ H E I hf st hg;subst hP hw hK;obtain ⟨hz,hTI,⟨os,hTO,ho⟩,hi⟩:=st;have dw:=StV.drw I hg hi;refine ZK4 (I.ok.hd hc) hz hTI hTO ho hsz hne a zz dw λh1 k1=>⟨rfl,?_⟩
  exact ZDp (t':=s.toks) (fp:=z::TI::TO::l.map (·.2)) I (λb o hb q=>by simp only [List.mem_cons,not_or] at hb;exact k1 b o hb.1 hb.2.2.1 hb.2.2.2 q) hf
 self:=λ_ _ _ _ _ st h=>wpAny_pyIter_zip st.1 h
noncomputable def Hv (G:DH) (j:Nat):List D->Option (Option (List D))
 | []=>some (some [])
 | d::r=>match Bs d G with
  | none=>none
  | some xs=>match xs[j]? with
   | none=>some none
   | some x=>match Hv G j r with
    | some (some ys)=>some (some (x::ys))
    | o=>o
noncomputable def Hi (ds:List D) (j:Nat) (G:DH):Option (Option D):=(Hv G j ds).map λo=>o.map D.tup
noncomputable def lenOf (G:DH) (d:D):Nat:=match Bs d G with
 | some xs=>xs.length
 | none=>0
noncomputable def Ku (G:DH) (d:D):Bool:=(Bs d G).isSome
noncomputable def Gd (n:Int) (d:D) (j:Nat) (G:DH):Option (Option D):=match Bs d G with
 | none=>none
 | some xs=>some (xs[j]?.map λx=>.tup [.int (n + j),x])
noncomputable def Ip (ds:List D) (G:DH):R ItD:=match ds with
 | [d]=>if Ku G d=true then .ok (.fn (lenOf G d) (Gd 0 d)) G else .bad
 | _=>.bad
noncomputable def Ig (n:Nat) (ds:List D) (G:DH):R ItD:=if ds.all (Ku G)=true/\ds.length=n then .ok (.fn (lenOf G (ds.headD .non)) (Hi ds)) G else .bad
section
variable {X:Cx} {E:XK}
theorem ZFv {G:DH} {d:D} {v:V} {xs:List D} (s:Sim a G) (r:Rep a d v) (h:Bs d G=some xs):
  ∃sr:Src,v=.ref sr.adr/\(∃vs,sr.sq a.K a.H vs)/\∀b:Wd,Ext a b->∀G',Sim b G'->∀ys,Bs d G'=some ys->∃us,sr.sq b.K b.H us/\Reps b ys us:=by
 cases d with
 | tup ds=>
  obtain ⟨p,vs,rfl,hq,rv⟩:=r;refine ⟨.t p,rfl,⟨vs,hq⟩,λb x G' s' ys hy=> ?_⟩
  cases (show some ds=some ys from hy)
  exact ⟨vs,x.sqT hq,rv.mono x⟩
 | fl ds=>
  obtain ⟨p,vs,rfl,hq,rv⟩:=r;refine ⟨.l p,rfl,⟨vs,hq.sq⟩,λb x G' s' ys hy=> ?_⟩
  cases (show some ds=some ys from hy)
  exact ⟨vs,(x.fzL hq).sq,rv.mono x⟩
 | ref i=>
  obtain ⟨hi,rfl⟩:=r;have hx:∃zs,G[i]? =some (.lst zs):=by
   unfold Bs at h;dsimp only at h;split at h
   ·rename_i zs hz;exact ⟨zs,hz⟩
   ·cases h
  obtain ⟨zs,hz⟩:=hx;obtain ⟨vs,e1,_⟩:=s.lst hz;refine ⟨.l (a.m i),rfl,⟨vs,.of e1⟩,λb x G' s' ys hy=> ?_⟩;unfold Bs at hy;dsimp only at hy;split at hy
  ·rename_i zs' hz';cases hy;obtain ⟨us,e2,r2⟩:=s'.lst hz';rw [x.m i hi] at e2;exact ⟨us,.of e2,r2⟩
  ·cases hy
 | _=>cases h
theorem ZMk {G:DH} {d:D} {v:V} (hk:a.K=X.K) (rd:∀b:Wd,Ext a b->∀G',Sim b G'->∀ys,Bs d G'=some ys->∃us,sr.sq b.K b.H us/\Reps b ys us) (n:Nat):RepI a (.fn n (Gd 0 d)) (Ite X.K sr 0):=by
 intro b x G' s' i;have kb:b.K=X.K:=x.k.trans hk;constructor
 ·intro e he;unfold Gd at he;split at he
  ·cases he
  ·rename_i ys hy;obtain ⟨us,hq,ru⟩:=rd b x G' s' ys hy;rw [kb] at hq;cases hyi:ys[i]? with
   | none=>rw [hyi] at he;cases he
   | some y=>
    rw [hyi] at he;have he':D.tup [.int (0 + i),y]=e:=by simpa using he
    subst he';obtain ⟨u,hu,rx⟩:=ru.get hyi;refine ⟨⟨us,u,hq,hu⟩,?_⟩;rintro w H' ⟨p,u',rfl,hp,rfl,hu'⟩;refine ⟨b.put p (.tup [.int (0 + i),u']),rfl,Ext.put hp,s'.put hp,p,_,rfl,.of Gg,?_⟩;have e1:=hu' us hq;rw [hu] at e1;cases e1;exact ⟨_,_,rfl,rfl,Reps.cons (rx.mono (Ext.put hp)) rfl⟩
 ·intro he;unfold Gd at he;split at he
  ·cases he
  ·rename_i ys hy;obtain ⟨us,hq,ru⟩:=rd b x G' s' ys hy;rw [kb] at hq;cases hyi:ys[i]? with
   | none=>exact ⟨us,hq,by rw [<-ru.length];exact List.getElem?_eq_none_iff.mp hyi⟩
   | some y=>rw [hyi] at he;cases he
theorem Rn {elts:List Expr} {x1} {tp:Pos} {e:Expr} {p pos:Pos} (hg:Gl X "enumerate") (hm:X.mg "enumerate"=none) (ha:QA X E [e] ta) (hs:starEach [e] X.env= [(false,eval e X.env)]:=by rfl):
  QI X E (.Tuple elts x1 tp) (.Call (.Name "enumerate" p) [e] [] pos) (Dh Ip ta):=(ZM1 hg hm ha hs).mono λσ H Q h=>by
 obtain ⟨a,S,G,hk,rfl,s,r,h⟩:=h;refine ⟨a,S,G,hk,rfl,s,r,(ZBw h).imp ?_⟩;rintro vs _ ⟨b,ds,G1,rfl,x,s1,q,-,h1⟩;unfold Ip at h1;split at h1
 ·rename_i d;split at h1
  ·rename_i hok;obtain ⟨v,r,e1,q1,q2⟩:=q
   cases (show r= [] from q2)
   subst e1
   obtain ⟨xs,hx⟩:=Option.isSome_iff_exists.mp (show (Bs d G1).isSome=true from hok)
   obtain ⟨sr,rfl,⟨us,hq⟩,rd⟩:=ZFv s1 q1 hx;have kb:b.K=X.K:=x.k.trans hk;exact ⟨sr,us,rfl,by rw [<-kb];exact hq,h1 b _ (Ext.refl b) s1 (ZMk (G:=G1) (v:=.non) kb rd _)⟩
  ·exact h1.elim
 ·exact h1.elim
theorem ZJe {G:DH} (s:Sim a G):∀{ds:List D} {vs:List V},Reps a ds vs->ds.all (Ku G)=true->∃ls:List Src,vs=ls.map (λsr=>V.ref sr.adr)/\(∀sr∈ls,∃us,sr.sq a.K a.H us)/\
   ∀b:Wd,Ext a b->∀G',Sim b G'->∀i,(∀ys,Hv G' i ds=some (some ys)->∃us,DrV b.K b.H i ls us/\Reps b ys us)/\(Hv G' i ds=some none->StV b.K b.H i ls)
 | [],vs,r,_=>by
  cases (show vs= [] from r)
  refine ⟨[],rfl,(λ_ h=>nomatch h),λb x G' s' i=>⟨λys h=> ?_,λh=> ?_⟩⟩
  ·cases h;exact ⟨[],.nil,rfl⟩
  ·cases h
 | d::ds,vs,r,h=>by
  rw [List.all_cons,Bool.and_eq_true] at h;obtain ⟨v,vr,rfl,q1,q2⟩:=r
  obtain ⟨xs,hx⟩:=Option.isSome_iff_exists.mp (show (Bs d G).isSome=true from h.1)
  obtain ⟨sr,rfl,hq,rd⟩:=ZFv s q1 hx;obtain ⟨ls,rfl,hqs,rds⟩:=ZJe s q2 h.2;refine ⟨sr::ls,rfl,λsr' hm=> ?_,λb x G' s' i=>⟨λys hy=> ?_,λhy=> ?_⟩⟩
  ·rcases List.mem_cons.mp hm with rfl | hm
   ·exact hq
   ·exact hqs sr' hm
  ·unfold Hv at hy;split at hy
   ·cases hy
   ·rename_i zs hz;obtain ⟨us,hu,ru⟩:=rd b x G' s' zs hz;split at hy
    ·cases hy
    ·rename_i y hyi;obtain ⟨u,hui,rx⟩:=ru.get hyi;split at hy
     ·rename_i ys' hys;cases hy;obtain ⟨us',d',r'⟩:=(rds b x G' s' i).1 ys' hys;exact ⟨u::us',.cons hu hui d',Reps.cons rx r'⟩
     ·rename_i hno;exact absurd hy (hno _)
  ·unfold Hv at hy;split at hy
   ·cases hy
   ·rename_i zs hz;obtain ⟨us,hu,ru⟩:=rd b x G' s' zs hz;split at hy
    ·rename_i hyi;exact .here hu (by rw [<-ru.length];exact List.getElem?_eq_none_iff.mp hyi)
    ·rename_i y hyi;obtain ⟨u,hui,rx⟩:=ru.get hyi;split at hy
     ·cases hy
     ·exact .there hu hui ((rds b x G' s' i).2 hy)
theorem ZNm {ds:List D} (hk:a.K=X.K) (rd:∀b:Wd,Ext a b->∀G',Sim b G'->∀i,(∀ys,Hv G' i ds=some (some ys)->∃us,DrV b.K b.H i ls us/\Reps b ys us)/\(Hv G' i ds=some none->StV b.K b.H i ls)) (n:Nat):
  RepI a (.fn n (Hi ds)) (Itz X.K ls):=by
 intro b x G' s' i;have kb:b.K=X.K:=x.k.trans hk;constructor
 ·intro e he;unfold Hi at he;cases hz:Hv G' i ds with
  | none=>rw [hz] at he;cases he
  | some o=>
   cases o with
   | none=>rw [hz] at he;cases he
   | some ys=>
    rw [hz] at he;have he':D.tup ys=e:=by simpa using he
    subst he';obtain ⟨us,d,ru⟩:=(rd b x G' s' i).1 ys hz;rw [kb] at d;refine ⟨⟨us,d⟩,?_⟩;rintro w H' ⟨p,us',rfl,hp,rfl,hu'⟩;cases hu' us d;exact ⟨b.put p (.tup us),rfl,Ext.put hp,s'.put hp,p,us,rfl,.of Gg,ru.mono (Ext.put hp)⟩
 ·intro he;unfold Hi at he;cases hz:Hv G' i ds with
  | none=>rw [hz] at he;cases he
  | some o=>
   cases o with
   | none=>
    have:=(rd b x G' s' i).2 hz;rw [kb] at this;exact this
   | some ys=>rw [hz] at he;cases he
noncomputable def ZD1 (n:Nat) (K:PySem.W.Frag) (ta:TA):TI:=λσ H R=>ta σ H λvs H1=>∃ls:List Src,vs=ls.map (λsr=>V.ref sr.adr)/\(∀sr∈ls,∃us,sr.sq K H1 us)/\ls.length=n/\R (Itz K ls) H1
theorem ZE0:∀{ls:List Src} {us:List Value},Vals (ls.map λsr=>V.ref sr.adr) us->us=ls.map λsr=>Value.ref sr.adr
 | [],us,h=>by cases h;rfl
 | sr::ls,us,h=>by
  rw [List.map_cons] at h;cases h with
  | cons r rr=>
   cases r;rw [ZE0 rr]
   rfl
theorem ZAr {n:Nat} {q:Src×Nat} (h:q∈ls.zipIdx n):q.1∈ls/\n<=q.2/\q.2 < n + ls.length:=by obtain ⟨i,hi,rfl⟩:=List.getElem_of_mem h;simp only [List.length_zipIdx] at hi;simp only [List.getElem_zipIdx];exact ⟨List.getElem_mem hi,by lia,by lia⟩
theorem ZJ1 {x1} {tp:Pos} {R:It->Hp->Prop} (I:Inv X pins σ H s) (hq:∀sr∈ls,∃us,sr.sq X.K H us) (hne:ls≠ []) (hl:ls.length<=1000000)
  (hct:checkTypeCall "zip" ⟨ls.map λsr=>Value.ref sr.adr,[]⟩=pure ()) (hcn:checkBuiltinCall "zip.__new__" ⟨.type "zip"::ls.map λsr=>Value.ref sr.adr,[]⟩=pure ()) (hok:∀obj,argsOk "object.__init__" ⟨obj::ls.map λsr=>Value.ref sr.adr,[]⟩)
  (q:R (Itz X.K ls) H):wpAny (model X.prog X.w) X.A (call (.type "zip") (ls.map λsr=>Value.ref sr.adr)) (λv s1=>wpAny (model X.prog X.w) X.A (pyIter v) (PIE X pins σ (.Tuple elts x1 tp) R) X.xe s1) X.xe s:=by
 have hv:∀sr∈ls,∃xs,sr.val s.heap xs:=λsr hm=>by obtain ⟨us,h⟩:=hq sr hm;obtain ⟨its,_,h',_⟩:=Src.sq.val I h;exact ⟨_,h'⟩
 have hlt:∀sr∈ls,sr.adr < s.heap.objs.size:=λsr hm=>by obtain ⟨xs,h⟩:=hv sr hm;obtain ⟨o,n,ho,_⟩:=h.obj;exact Heap.lt_size ho
 refine ZSB hv hl hct hcn hok λh' n hn hz hTI hTO hi kp=> ?_
 refine wpAny_pyIter_zip hz ?_;have I2:Inv X pins σ H {s with heap:=h'}:=I.kept (t':=s.toks) kp
 have em:(ls.zipIdx s.heap.objs.size).map (·.1)=ls:=by refine List.ext_getElem (by simp) λi h1 h2=>by simp
 have e2:(ls.zipIdx s.heap.objs.size).map (·.2)=List.range' s.heap.objs.size ls.length:=by refine List.ext_getElem (by simp) λi h1 h2=>by simp [Nat.add_comm]
 have qb:∀q∈ls.zipIdx s.heap.objs.size,q.1.adr < s.heap.objs.size/\s.heap.objs.size<=q.2/\q.2 < n:=λq hm=>⟨hlt _ (ZAr hm).1,(ZAr hm).2.1,by rw [hn];exact (ZAr hm).2.2⟩
 have hsn:s.heap.objs.size<=n:=by rw [hn];exact Nat.le_add_right _ _
 have ap:ApZ (n + 1) (ls.zipIdx s.heap.objs.size):=⟨by rw [e2];exact List.nodup_range',λq hm=>Nat.ne_of_lt (Nat.lt_of_lt_of_le (qb q hm).1 (Nat.le_succ_of_le hsn)),λq hm r hr=>Nat.ne_of_lt (Nat.lt_of_lt_of_le (qb q hm).1 (qb r hr).2.1),λq hm=>Nat.ne_of_lt (Nat.lt_succ_of_lt (qb q hm).2.2)⟩;have T:=ZRK (P:=X.prog) (w:=X.w) (K:=X.K) (elts:=elts) (x1:=x1) (pos:=tp) (ls.zipIdx s.heap.objs.size) (n + 2) n (n + 1) ap ⟨Nat.succ_ne_self (n + 1),λq hm=>⟨Nat.ne_of_lt (Nat.lt_of_lt_of_le (qb q hm).2.2 (Nat.le_add_right n 2)),Nat.ne_of_lt (Nat.lt_of_lt_of_le (qb q hm).1 (Nat.le_trans hsn (Nat.le_add_right n 2)))⟩⟩
  ⟨Nat.ne_of_lt (Nat.lt_add_of_pos_right (by decide)),Nat.ne_of_lt (Nat.lt_succ_self n),λq hm=>Nat.ne_of_lt (qb q hm).2.2⟩ (by simpa using hl) (by intro e;apply hne;rw [<-em,e];rfl)
 rw [em] at T;refine ⟨n + 2,_,_,_,H,rfl,I2,T,⟨hz,hTI,⟨_,hTO,by simp⟩,hi⟩,λb hb=> ?_,q⟩;have hle:s.heap.objs.size<=b:=by
  rcases List.mem_cons.mp hb with rfl | hb
  ·exact Nat.le_trans hsn (Nat.le_add_right n 2)
  ·rcases List.mem_cons.mp hb with rfl | hb
   ·exact hsn
   ·rcases List.mem_cons.mp hb with rfl | hb
    ·exact Nat.le_succ_of_le hsn
    ·obtain ⟨q,hq,rfl⟩:=List.mem_map.mp hb;exact (ZAr hq).2.1
 exact I.Ks hle (I.hok.fresh hle)
theorem ZJ9 (a b c:Value):checkTypeCall "zip" ⟨[a,b,c],[]⟩=pure ():=by kernel_rfl
theorem ZN3 (a b c:Value):checkBuiltinCall "zip.__new__" ⟨[.type "zip",a,b,c],[]⟩=pure ():=by kernel_rfl
theorem ZOZ (a b c d:Value):argsOk "object.__init__" ⟨[a,b,c,d],[]⟩:=by unfold argsOk;rw [signature?_of (id:="object.__init__") (n:= ['_','_','t','i','n','i','_','_']) (o:= ['t','c','e','j','b','o']) (by kernel_rfl) PySem.F.owner_object];kernel_rfl
theorem ZMb {elts:List Expr} {x1} {tp:Pos} {a b:Expr} {ta:TA} {p pos:Pos} (hg:Gl X "zip") (hm:X.mg "zip"=none) (ha:PA X [a,b] ta) (hs:starEach [a,b] X.env= [(false,eval a X.env),(false,eval b X.env)]:=by rfl) (hs2:starEach [b] X.env= [(false,eval b X.env)]:=by rfl):
  PI X (.Tuple elts x1 tp) (.Call (.Name "zip" p) [a,b] [] pos) (ZD1 2 X.K ta):=by
 intro pins s σ H R I h;refine Call_ (Jg I hg hm PyProof.Rows.boot_zip (PyProof.Rows.callWith_type1 (thn (ha pos pins s σ H _ I h) λus s1 ⟨vs,H1,I1,r1,q1⟩=> ?_) (by rw [hs,hs2]) (by rw [hs2];rfl)));obtain ⟨ls,rfl,hq,hl,q⟩:=q1;cases ZE0 r1
 match ls,hl with
 | [x,y],_=>exact ZJ1 I1 hq (by simp) (by simp) (PySem.F.typeCall_zip_2 _ _) (PySem.F.newCall_zip_2 _ _) (λobj=>PySem.F.args_object_init_3 obj _ _) q
theorem ZMG {elts:List Expr} {x1} {tp:Pos} {a b c:Expr} {ta:TA} {p pos:Pos} (hg:Gl X "zip") (hm:X.mg "zip"=none) (ha:PA X [a,b,c] ta) (hs:starEach [a,b,c] X.env= [(false,eval a X.env),(false,eval b X.env),(false,eval c X.env)]:=by rfl)
  (hs2:starEach [b,c] X.env= [(false,eval b X.env),(false,eval c X.env)]:=by rfl):PI X (.Tuple elts x1 tp) (.Call (.Name "zip" p) [a,b,c] [] pos) (ZD1 3 X.K ta):=by
 intro pins s σ H R I h;refine Call_ (Jg I hg hm PyProof.Rows.boot_zip (PyProof.Rows.callWith_type1 (thn (ha pos pins s σ H _ I h) λus s1 ⟨vs,H1,I1,r1,q1⟩=> ?_) (by rw [hs,hs2]) (by rw [hs2];rfl)));obtain ⟨ls,rfl,hq,hl,q⟩:=q1;cases ZE0 r1
 match ls,hl with
 | [x,y,z],_=>exact ZJ1 I1 hq (by simp) (by simp) (ZJ9 _ _ _) (ZN3 _ _ _) (λobj=>ZOZ obj _ _ _) q
theorem ZIZ {n:Nat} {Q:It->Hp->Prop} (hK:K=X.K) (h:lI K E (Dh (Ig n) ta) σ H Q):ZD1 n K (lA K E ta) σ H Q:=by
 subst hK;obtain ⟨a,S,G,hk,rfl,s,r,h⟩:=h;refine ⟨a,S,G,hk,rfl,s,r,(ZBw h).imp ?_⟩;rintro vs _ ⟨b,ds,G1,rfl,x,s1,q,-,h1⟩;unfold Ig at h1;split at h1
 ·rename_i hok;obtain ⟨ls,e,hq,rd⟩:=ZJe s1 q hok.1;have kb:b.K=X.K:=x.k.trans hk;have hl:ls.length=n:=by have:=q.length;rw [e,List.length_map] at this;lia
  exact ⟨ls,e,λsr hm=>by rw [<-kb];exact hq sr hm,hl,h1 b _ (Ext.refl b) s1 (ZNm kb rd _)⟩
 ·exact h1.elim
theorem ZGD {elts:List Expr} {x1} {tp:Pos} {a b:Expr} {p pos:Pos} (hg:Gl X "zip") (hm:X.mg "zip"=none) (ha:QA X E [a,b] ta) (hs:starEach [a,b] X.env= [(false,eval a X.env),(false,eval b X.env)]:=by rfl) (hs2:starEach [b] X.env= [(false,eval b X.env)]:=by rfl):
  QI X E (.Tuple elts x1 tp) (.Call (.Name "zip" p) [a,b] [] pos) (Dh (Ig 2) ta):=(ZMb hg hm ha hs hs2).mono λσ H Q h=>ZIZ rfl h
theorem ZPj {elts:List Expr} {x1} {tp:Pos} {a b c:Expr} {p pos:Pos} (hg:Gl X "zip") (hm:X.mg "zip"=none) (ha:QA X E [a,b,c] ta) (hs:starEach [a,b,c] X.env= [(false,eval a X.env),(false,eval b X.env),(false,eval c X.env)]:=by rfl)
  (hs2:starEach [b,c] X.env= [(false,eval b X.env),(false,eval c X.env)]:=by rfl):QI X E (.Tuple elts x1 tp) (.Call (.Name "zip" p) [a,b,c] [] pos) (Dh (Ig 3) ta):=(ZMG hg hm ha hs hs2).mono λσ H Q h=>ZIZ rfl h
end
noncomputable def ixL:D->D->DH->R D
 | .ref p,.int k,G=>match G[p]? with
  | some (.lst xs)=>match atI xs k with
   | some v=>.ok v G
   | none=>.bad
  | _=>.bad
 | _,_,_=>.bad
noncomputable def Qe (to ti te:DE) (f:D->D->DH->R D):DS:=λS G=>(to S G).toS λo G1=>(ti S G1).toS λi G2=>(ixL o i G2).toS λx G3=>(te S G3).toS λy G4=>(f x y G4).toS λz G5=>(Lb o i z G5).toS λ_ G6=>.nx S G6
noncomputable def sBad:DS:=λ_ _=>.bad
section
variable {X:Cx} {E:XK}
theorem ZNc {st:Stmt}:QS X E st sBad:=λpins s σ H W I h=>by obtain ⟨a,S,G,hk,rfl,sm,r,h⟩:=h;exact h.elim
theorem Xo {o i e:Expr} {op:Operator} {to ti te:DE} {f:D->D->DH->R D} {tpos pos:Pos} (ho:QE X E o to) (hi:QE X E i ti) (he:QE X E e te) (hop:OpR X (inplaceOp op) (lR2 X.K E f))
  (ha:∀ov iv new,augStore i ov iv new=(do holding [new,ov,iv] (setItem ov iv new);release [new,ov,iv] [];pure .next):=by intros;rfl):QS X E (.AugAssign (.Subscript o i tpos) op e pos) (Qe to ti te f):=by
 intro pins s σ H W I h;obtain ⟨a,S,G,hk,rfl,sm,r,h⟩:=h;refine wpAny_AugAssign_SubscriptAny (thn (ho pins s σ a.H _ I ⟨a,S,G,hk,rfl,sm,r,Hk h⟩) ?_) ha;rintro ov s1 ⟨vo,H1,I1,ro,b1,o,G1,rfl,x1,m1,q1,_,h1⟩;have k1:=x1.k.trans hk;refine thn (hi pins s1 σ b1.H _ I1 ⟨b1,S,G1,k1,rfl,m1,r.mono x1,Hk h1⟩) ?_;rintro iv s2 ⟨vi,H2,I2,ri,b2,i,G2,rfl,x2,m2,q2,_,h2⟩;have k2:=x2.k.trans k1;have q1':=q1.mono x2;cases i with
 | int k=>
  cases o with
  | ref p=>
   obtain ⟨hp,rfl⟩:=q1'
   cases (show vi=V.int k from q2)
   cases ro;obtain ⟨t,rfl⟩:=ri;unfold ixL at h2;dsimp only at h2;split at h2
   ·rename_i xs hx';obtain ⟨vs,e1,r1⟩:=m2.lst hx';split at h2
    ·rename_i d hd;obtain ⟨v,ev,rd⟩:=ZGq r1 hd;have h2':Cw E b2 ((te S G2).toS λy G4=>(f d y G4).toS λz G5=>(Lb (.ref p) (.int k) z G5).toS λ_ G6=>.nx S G6) W:=h2;obtain ⟨its,rv,pl,hz⟩:=I2.list (.of e1);obtain ⟨j,g1,g2,g3,g4,g5⟩:=X7 ev;obtain ⟨w,ew,rw'⟩:=rv.get g2;have hl:=rv.length;have hn:=line63;have fin:wpAny (model X.prog X.w) X.A (getItem (.ref (b2.m p)) (.int k t)) (λold s3=>old=w/\s3=s2) X.xe s2:=by
      by_cases h0:0<=k
      ·have hj:k.toNat=j:=by rw [seqIndex_of h0 g5] at g1;exact Option.some.inj g1
       exact wpAny_getItem_list pl.isList h0 (by lia) (by rw [hj];simpa using ew) ⟨rfl,rfl⟩
      ·have hj:(k + (its.toArray.size:Int)).toNat=j:=by rw [seqIndex_neg (by lia) g4] at g1;rw [List.size_toArray,<-hl];exact Option.some.inj g1
       exact wpAny_getItem_list_neg pl.isList (by lia) (by rw [List.size_toArray] <;> lia) (by lia) (by rw [hj];simpa using ew) ⟨rfl,rfl⟩
     refine thn fin ?_;rintro old s3 ⟨rfl,rfl⟩;refine thn (he pins s3 σ b2.H _ I2 ⟨b2,S,G2,k2,rfl,m2,(r.mono x1).mono x2,Hk h2'⟩) ?_;rintro yv s4 ⟨vy,H4,I4,ry,b4,y,G4,rfl,x4,m4,q4,_,h4⟩;have k4:=x4.k.trans k2;refine thn (hop pins s4 σ b4.H v vy old yv _ I4 rw' ry ⟨b4,G4,d,y,k4,rfl,m4,rd.mono x4,q4,Hk h4⟩) ?_;rintro new s5 ⟨vn,H5,I5,rn,b5,z,G5,rfl,x5,m5,q5,_,h5⟩;unfold Lb at h5;dsimp only at h5;split at h5
     ·rename_i ys hy;split at h5
      ·rename_i jj hjj;obtain ⟨ws,e5,r5⟩:=m5.lst hy;have hp5:p < b5.n:=Nat.lt_of_lt_of_le hp (Nat.le_trans x4.n x5.n);have em:b5.m p=b2.m p:=(x5.m p (Nat.lt_of_lt_of_le hp x4.n)).trans (x4.m p hp);obtain ⟨x6,m6⟩:=ZEB m5 hp5 e5 (r5.set q5 jj);refine thn (set_list pins s5 σ b5.H (.ref (b2.m p)) (.int k) vn (.ref (b2.m p)) (.int k t) new (λH'=>W.nx σ H') I5 rfl ⟨t,rfl⟩ rn ⟨b5.m p,ws,k,jj,by rw [em],rfl,e5,by rw [<-r5.length];exact hjj,?_⟩) ?_
       ·exact h5 _ σ x6 m6 (((((r.mono x1).mono x2).mono x4).mono x5).mono x6)
       ·rintro _ s6 ⟨H6,I6,q6⟩;exact ⟨σ,H6,I6,q6⟩
      ·exact h5.elim
     ·exact h5.elim
    ·exact h2.elim
   ·exact h2.elim
  | _=>exact (show False from h2).elim
 | _=>cases o <;> exact (show False from h2).elim
end
noncomputable def Oj (ds:List D) (G:DH):R D:=match ds with
 | [d]=>match Bs d G with
  | some xs=>match Gj xs with
   | some (n::ns)=>.ok (.int (ns.foldl min n)) G
   | _=>.bad
  | none=>.bad
 | _=>.bad
noncomputable def Pn (ds:List D) (G:DH):R D:=match ds with
 | [d]=>match Bs d G with
  | some xs=>match Gj xs with
   | some (n::ns)=>.ok (.int (ns.foldl max n)) G
   | _=>.bad
  | none=>.bad
 | _=>.bad
theorem ZA3:∀(ns:List Int) (n:Int),ns.foldl min n<=n/\(∀x∈ns,ns.foldl min n<=x)/\(ns.foldl min n=n∨ns.foldl min n∈ns)
 | [],n=>⟨Int.le_refl _,λx h=>(by cases h),.inl rfl⟩
 | m::ns,n=>by
  obtain ⟨h1,h2,h3⟩:=ZA3 ns (min n m);rw [List.foldl_cons];refine ⟨by lia,λx hx=> ?_,?_⟩
  ·rcases List.mem_cons.mp hx with rfl | hx
   ·lia
   ·exact h2 x hx
  ·rcases h3 with h | h
   ·by_cases e:n<=m
    ·exact .inl (by rw [h];lia)
    ·exact .inr (by rw [h];rw [show min n m=m by lia];exact List.mem_cons_self)
   ·exact .inr (List.mem_cons_of_mem _ h)
theorem ZF4:∀(ns:List Int) (n:Int),n<=ns.foldl max n/\(∀x∈ns,x<=ns.foldl max n)/\(ns.foldl max n=n∨ns.foldl max n∈ns)
 | [],n=>⟨Int.le_refl _,λx h=>(by cases h),.inl rfl⟩
 | m::ns,n=>by
  obtain ⟨h1,h2,h3⟩:=ZF4 ns (max n m);rw [List.foldl_cons];refine ⟨by lia,λx hx=> ?_,?_⟩
  ·rcases List.mem_cons.mp hx with rfl | hx
   ·lia
   ·exact h2 x hx
  ·rcases h3 with h | h
   ·by_cases e:m<=n
    ·exact .inl (by rw [h];lia)
    ·exact .inr (by rw [h];rw [show max n m=m by lia];exact List.mem_cons_self)
   ·exact .inr (List.mem_cons_of_mem _ h)
section
variable {X:Cx} {E:XK}
theorem intAt {ns:List Int} {its:List Value} {w:Value} (hv:Vals (ns.map V.int) its) (hw:its.toArray[i]? =some w):i < ns.length/\∃t,w=.int (ns.getD i 0) t:=by
 have hw':its[i]? =some w:=by simpa using hw
 have hl:i < (ns.map V.int).length:=by rw [hv.length];exact (List.getElem?_eq_some_iff.mp hw').1
 have hl':i < ns.length:=by simpa using hl
 obtain ⟨u,hu,ru⟩:=hv.get (i:=i) (x:=V.int ns[i]) (by simp [hl']);rw [hw'] at hu;cases hu;obtain ⟨t,rfl⟩:=ru;exact ⟨hl',t,by simp [hl']⟩
theorem ZPH (hc:X.calm=true):CallR X (.builtin "min") (lRn X.K E Oj):=by
 intro pins s σ H vs us Q I rs h;obtain ⟨a,G,ds,hk,rfl,sm,r,q⟩:=h;unfold Oj at q;split at q
 ·rename_i d;obtain ⟨v,rfl,rv⟩:=reps1 r;split at q
  ·rename_i xs hs;split at q
   ·rename_i n ns hn;cases ZBC hn;obtain ⟨p,ws,rfl,h1,r1⟩:=Lj sm rv hs;cases ZDG r1;rw [hk] at h1;obtain ⟨u,rfl,ru⟩:=vals1 rs;cases ru;refine call_min_walk (ZE6 I hc h1 λit fp wr its St s₂ hv W st hfp fin=>⟨it,fp,wr,its.toArray.size,_,St,_,rfl,W,st,hfp,?_,CmpOf.ints_lt (λi=>(n::ns).getD i 0) (λi w hw=>(intAt hv hw).2),λw h' tk hw kk=> ?_⟩)
    ·rw [List.size_toArray,<-hv.length];simp
    ·obtain ⟨hl,t,rfl⟩:=intAt hv hw;obtain ⟨b1,b2⟩:=argBest_lt (λi=>(n::ns).getD i 0) (its.toArray.size - 1);refine ⟨.int (ns.foldl min n),a.H,fin h' tk kk,⟨t,?_⟩,q a _ (Ext.refl a) sm rfl⟩;have hsz:its.toArray.size=ns.length + 1:=by rw [List.size_toArray,<-hv.length];simp
     obtain ⟨m1,m2,m3⟩:=ZA3 ns n;have hle:∀x∈n::ns,ns.foldl min n<=x:=λx hx=>by
      rcases List.mem_cons.mp hx with rfl | hx
      ·exact m1
      ·exact m2 x hx
     have hin:ns.foldl min n∈n::ns:=by
      rcases m3 with h | h
      ·rw [h];exact List.mem_cons_self
      ·exact List.mem_cons_of_mem _ h
     obtain ⟨j,hj,ej⟩:=List.getElem_of_mem hin;have c1:=b2 j (by simp at hj;lia);have c2:=hle _ (List.getElem_mem hl);have e1:(n::ns).getD j 0=ns.foldl min n:=by rw [List.getD_eq_getElem?_getD,List.getElem?_eq_getElem hj];exact ej
     have e2:(n::ns).getD (argBest (λi j=>decide ((λi=>(n::ns).getD i 0) i < (λi=>(n::ns).getD i 0) j)) (its.toArray.size - 1)) 0=(n::ns)[argBest (λi j=>decide ((λi=>(n::ns).getD i 0) i < (λi=>(n::ns).getD i 0) j)) (its.toArray.size - 1)]:=by rw [List.getD_eq_getElem?_getD,List.getElem?_eq_getElem hl];rfl
     have c1':=c1;rw [e1] at c1';rw [<-e2] at c2
     congr 1
     exact Int.le_antisymm c1' c2
   ·exact q.elim
  ·exact q.elim
 ·exact q.elim
theorem ZRs (hc:X.calm=true):CallR X (.builtin "max") (lRn X.K E Pn):=by
 intro pins s σ H vs us Q I rs h;obtain ⟨a,G,ds,hk,rfl,sm,r,q⟩:=h;unfold Pn at q;split at q
 ·rename_i d;obtain ⟨v,rfl,rv⟩:=reps1 r;split at q
  ·rename_i xs hs;split at q
   ·rename_i n ns hn;cases ZBC hn;obtain ⟨p,ws,rfl,h1,r1⟩:=Lj sm rv hs;cases ZDG r1;rw [hk] at h1;obtain ⟨u,rfl,ru⟩:=vals1 rs;cases ru;refine call_max_walk (ZE6 I hc h1 λit fp wr its St s₂ hv W st hfp fin=>⟨it,fp,wr,its.toArray.size,_,St,_,rfl,W,st,hfp,?_,CmpOf.ints_gt (λi=>(n::ns).getD i 0) (λi w hw=>(intAt hv hw).2),λw h' tk hw kk=> ?_⟩)
    ·rw [List.size_toArray,<-hv.length];simp
    ·obtain ⟨hl,t,rfl⟩:=intAt hv hw;obtain ⟨b1,b2⟩:=argBest_gt (λi=>(n::ns).getD i 0) (its.toArray.size - 1);refine ⟨.int (ns.foldl max n),a.H,fin h' tk kk,⟨t,?_⟩,q a _ (Ext.refl a) sm rfl⟩;have hsz:its.toArray.size=ns.length + 1:=by rw [List.size_toArray,<-hv.length];simp
     obtain ⟨m1,m2,m3⟩:=ZF4 ns n;have hle:∀x∈n::ns,x<=ns.foldl max n:=λx hx=>by
      rcases List.mem_cons.mp hx with rfl | hx
      ·exact m1
      ·exact m2 x hx
     have hin:ns.foldl max n∈n::ns:=by
      rcases m3 with h | h
      ·rw [h];exact List.mem_cons_self
      ·exact List.mem_cons_of_mem _ h
     obtain ⟨j,hj,ej⟩:=List.getElem_of_mem hin;have c1:=b2 j (by simp at hj;lia);have c2:=hle _ (List.getElem_mem hl);have e1:(n::ns).getD j 0=ns.foldl max n:=by rw [List.getD_eq_getElem?_getD,List.getElem?_eq_getElem hj];exact ej
     have e2:(n::ns).getD (argBest (λi j=>decide ((λi=>(n::ns).getD i 0) i > (λi=>(n::ns).getD i 0) j)) (its.toArray.size - 1)) 0=(n::ns)[argBest (λi j=>decide ((λi=>(n::ns).getD i 0) i > (λi=>(n::ns).getD i 0) j)) (its.toArray.size - 1)]:=by rw [List.getD_eq_getElem?_getD,List.getElem?_eq_getElem hl];rfl
     have c1':=c1;rw [e1] at c1';rw [<-e2] at c2
     congr 1
     exact Int.le_antisymm c2 c1'
   ·exact q.elim
  ·exact q.elim
 ·exact q.elim
noncomputable def Kq:D->D->DH->R D
 | .ref p,.int k,G=>match G[p]? with
  | some (.lst xs)=>if -(2 ^ 63)<=k/\k < 2 ^ 63/\xs.length * k.toNat<=1000000 then .ok (.ref G.length) (G++ [.lst (List.replicate k.toNat xs).flatten]) else .bad
  | _=>.bad
 | _,_,_=>.bad
theorem Reps.rep {ds:List D} {vs:List V} (r:Reps a ds vs):∀k,Reps a (List.replicate k ds).flatten (List.replicate k vs).flatten
 | 0=>rfl
 | k + 1=>by rw [List.replicate_succ,List.replicate_succ,List.flatten_cons,List.flatten_cons];exact r.append (Reps.rep r k)
theorem ZJW:OpR X (binaryOp .Mult) (lR2 X.K E Kq):=ZRO.mono λx y H Q h=>by
 obtain ⟨a,G,d,e,hk,rfl,s,rd,re,q⟩:=h;cases d with
 | ref p=>
  cases e with
  | int k=>
   unfold Kq at q;dsimp only at q;split at q
   ·rename_i xs hx;split at q
    ·rename_i hc;obtain ⟨vs,e1,r1⟩:=s.lst hx;obtain ⟨hp,rfl⟩:=rd;refine ⟨a.m p,k,vs,rfl,re,e1,hc.1,hc.2.1,?_,λp hp=>La s (Reps.rep r1 k.toNat) q p hp⟩;rw [<-r1.length];exact Nat.le_trans hc.2.2 size6
    ·exact q.elim
   ·exact q.elim
  | _=>exact (show False from q).elim
 | _=>exact (show False from q).elim
end
end DL
namespace DL
open PySem PySem.W PyProof.Rows
noncomputable def Safe (n:Nat) {α:Type} (P:α->Prop):KasT α->Prop
 | .ret a=>P a
 | .ask i j k=>i < n/\j < n/\∀b,Safe n P (k b)
theorem Safe.bind {n:Nat} {α β:Type} {f:α->KasT β} {P:α->Prop} {Q:β->Prop} (h2:∀a,P a->Safe n Q (f a)):∀{t:KasT α},Safe n P t->Safe n Q (t.bind f)
 | .ret a,h=>h2 a h
 | .ask _ _ _,h=>⟨h.1,h.2.1,λb=>Safe.bind h2 (h.2.2 b)⟩
noncomputable def Ents (n:Nat) (p:Array Nat):Prop:=0 < n/\p.Perm (List.range n).toArray
theorem Ents.lt {n:Nat} {p:Array Nat} (h:Ents n p) {x:Nat} (hx:x∈p):x < n:=by have:=h.2.mem_iff.mp hx;simpa using this
theorem Ents.pt {n:Nat} {p:Array Nat} (h:Ents n p) (k:Nat):p.getD k 0 < n:=by
 by_cases hk:k < p.size
 ·have:p.getD k 0=p[k]:=by simp [Array.getD,hk]
  rw [this];exact h.lt (Array.getElem_mem hk)
 ·have:p.getD k 0=0:=by simp [Array.getD,hk]
  rw [this];exact h.1
theorem Ents.perm {n:Nat} {p q:Array Nat} (h:Ents n p) (e:q.Perm p):Ents n q:=⟨h.1,e.trans h.2⟩
theorem ZDq {n:Nat} {p:Array Nat} (h:Ents n p):∀f m,Safe n (λ_=>True) (kas_asc p f m)
 | 0,m=>trivial
 | f + 1,m=>⟨h.pt _,h.pt _,λb=>by
   cases b with
   | true=>exact trivial
   | false=>exact ZDq h f (m + 1)⟩
theorem ZBQ {n:Nat}:∀f {p:Array Nat} m q,Ents n p->Safe n (λr=>Ents n r.1) (kas_desc f p m q)
 | 0,p,m,q,h=>h
 | f + 1,p,m,q,h=>⟨h.pt _,h.pt _,λb=>by
   cases b with
   | true=>
    by_cases hq:q > 0
    ·simp only [if_true,if_pos hq];exact ZBQ f _ _ (h.perm (mirror_perm ..))
    ·simp only [if_true,if_neg hq];exact ZBQ f _ _ h
   | false=>
    refine ⟨h.pt _,h.pt _,λd=> ?_⟩;cases d with
    | true=>exact h
    | false=>exact ZBQ f _ _ h⟩
theorem ZIM {n:Nat} {p:Array Nat} (h:Ents n p) (m k:Nat):Safe n (λr=>Ents n r.2) (kas_tail3 m k p):=by unfold kas_tail3;refine Safe.bind (P:=λ_=>True) (λa _=> ?_) (ZDq (h.perm (mirror_perm ..)) _ _);exact h.perm (mirror_perm ..)
theorem ZHH {n:Nat} {p:Array Nat} (h:Ents n p) (m k:Nat):Safe n (λr=>Ents n r.2) (kas_descPart m k p):=
 Safe.bind (P:=λr=>Ents n r.1) (λa ha=>by
  split
  ·exact ZIM (ha.perm (mirror_perm ..)) _ _
  ·exact ZIM ha _ _) (ZBQ _ _ _ h)
theorem ZJL {n:Nat} {p:Array Nat} (h:Ents n p) (k:Nat):Safe n (λr=>Ents n r.2) (kas_count k p):=
 Safe.bind (P:=λ_=>True) (λa _=>by
  split
  ·exact h
  ·split
   ·refine ⟨h.pt _,h.pt _,λc=> ?_⟩;cases c with
    | true=>exact h
    | false=>exact ZHH (h.perm (mirror_perm ..)) _ _
   ·exact ZHH h _ _) (ZDq h _ _)
theorem Ym {n:Nat} {p:Array Nat} (h:Ents n p) (k:Nat):∀f l r,Safe n (λ_=>True) (kas_place p k f l r)
 | 0,l,r=>trivial
 | f + 1,l,r=>by
  unfold kas_place;split
  ·trivial
  ·refine ⟨h.pt _,h.pt _,λc=> ?_⟩;cases c with
   | true=>exact Ym h k f _ _
   | false=>exact Ym h k f _ _
theorem ZIC {n:Nat}:∀f {p:Array Nat} k,Ents n p->Safe n (λ_=>True) (kas_bin f p k)
 | 0,p,k,h=>trivial
 | f + 1,p,k,h=>Safe.bind (P:=λ_=>True) (λa _=>ZIC f _ (h.perm (bubble_perm ..))) (Ym h k _ _ _)
theorem ZL5 {n:Nat} (hn:0 < n):Safe n (λ_=>True) (kas_sort n):=
 Safe.bind (P:=λr=>Ents n r.2) (λa ha=>by
  split
  ·exact ZIC _ _ ha
  ·trivial) (ZJL ⟨hn,Array.Perm.refl _⟩ _)
end DL
namespace DL
open PySem PySem.Spec L2
open PyProof.Rows hiding St
variable {a:Wd} {d:D} {v:V} {xs ys:List D} {G:DH} {vs:List V} {te:DE} {g:DG} {k:Nat} {us:List (Str×V)} {F:List D->DH->R D} {CX:CXT} {fd:FuncData} {ps:List Str} {e:Expr}
noncomputable def ltL:List D->List D->Option Bool
 | [],[]=>some false
 | [],_::_=>some true
 | _::_,[]=>some false
 | .int a::r,.int b::r'=>if a=b then ltL r r' else some (decide (a < b))
 | .str a::r,.str b::r'=>if a=b then ltL r r' else some (decide (a.cps.toList < b.cps.toList))
 | _::_,_::_=>none
noncomputable def ltD:D->D->Option Bool
 | .tup xs,.tup ys=>ltL xs ys
 | _,_=>none
noncomputable def ltI (xs:List D) (i j:Nat):Bool:=(ltD (xs.getD i .non) (xs.getD j .non)).getD false
noncomputable def isIt:D->Bool
 | .tup (.int _::_)=>true
 | _=>false
noncomputable def Ve:D->Bool
 | .tup (.str _::_)=>true
 | _=>false
noncomputable def Px (xs:List D):Bool:=(xs.all isIt || xs.all Ve) && xs.all λx=>xs.all λy=>(ltD x y).isSome
noncomputable def M5 (xs:List D):List D:=if xs.length < 2 then xs else (Bv (ltI xs) (PySem.W.kas_sort xs.length)).toList.map λi=>xs.getD i .non
noncomputable def Tf (ds:List D) (G:DH):R D:=match ds with
 | [d]=>match Ho d G with
  | some xs=>if (xs.length < 64/\(M5 xs).length < 64)/\Px xs=true then .ok (.ref G.length) (G++ [.lst (M5 xs)]) else .bad
  | none=>.bad
 | _=>.bad
theorem ZG9 {n:Nat} {cmp:Nat->Nat->(Bool->Shared->Prop)->Shared->Prop} {lt:Nat->Nat->Bool} {s:Shared} (h:∀i j,i < n->j < n->∀C:Bool->Shared->Prop,C (lt i j) s->cmp i j C s) {α:Type} {P:α->Prop} {Q:α->Shared->Prop}:
  ∀{t:PySem.W.KasT α},Safe n P t->Q (Bv lt t) s->t.kasWp cmp Q s
 | .ret _,_,hq=>hq
 | .ask i j k,hs,hq=>h i j hs.1 hs.2.1 _ (ZG9 h (hs.2.2 (lt i j)) hq)
section
variable {prog:Program} {w:World} {A:Around} {s:Shared}
theorem ZRN {c:Bool} {a b:Int} {t u:Tok} {Q:Bool->Shared->Prop} {E:Value->Shared->Prop} (h:Q (decide (a < b)) s):wpAny (model prog w) A (oneLt' c (.int a t) (.int b u)) Q E s:=by
 cases c with
 | true=>exact oneLt_int h
 | false=>exact PySem.W.kat_one _ _ (lt_int (Q:=PySem.W.BoolBack Q) h)
theorem ZRQ {c:Bool} {a b:Str} {t u:Tok} {Q:Bool->Shared->Prop} {E:Value->Shared->Prop} (h:Q (decide (a.cps.toList < b.cps.toList)) s):wpAny (model prog w) A (oneLt' c (.str a t) (.str b u)) Q E s:=by
 cases c with
 | true=>exact oneLt_str h
 | false=>exact PySem.W.kat_one _ _ (lt_str (Q:=PySem.W.BoolBack Q) h)
theorem ZFV {Q:Bool->Shared->Prop} {fin:Bool}:∀{xs ys:List D} {vs ws:List V} {us zs:List Value} {i:Nat} {k:Bool},Reps a xs vs->Reps a ys ws->Vals vs us->Vals ws zs->ltL xs ys=some k->fin=decide (us.length < zs.length)->Q k s->
  PySem.W.KatLex prog w A true fin Q (us.zip zs) i s
 | [],[],vs,ws,us,zs,i,k,r1,r2,v1,v2,h,hf,hq=>by
  cases (show vs= [] from r1);cases (show ws= [] from r2);cases v1;cases v2
  cases h;subst hf;exact PySem.W.kat_nil hq
 | [],y::ys,vs,ws,us,zs,i,k,r1,r2,v1,v2,h,hf,hq=>by
  cases (show vs= [] from r1);cases v1
  obtain ⟨w1,wr,rfl,_,_⟩:=r2;cases v2;cases h;subst hf;exact PySem.W.kat_nil (by simpa using hq)
 | x::xs,[],vs,ws,us,zs,i,k,r1,r2,v1,v2,h,hf,hq=>by
  cases (show ws= [] from r2);cases v2
  obtain ⟨w1,wr,rfl,_,_⟩:=r1;cases v1;have hk:k=false:=by cases x <;> (simp [ltL] at h;exact h)
  subst hk;subst hf;exact PySem.W.kat_nil (by simpa using hq)
 | x::xs,y::ys,vs,ws,us,zs,i,k,r1,r2,v1,v2,h,hf,hq=>by
  have hcase:(∃m n,x=.int m/\y=.int n)∨(∃m n,x=.str m/\y=.str n):=by
   cases x <;> cases y <;> first
    | exact .inl ⟨_,_,rfl,rfl⟩
    | exact .inr ⟨_,_,rfl,rfl⟩
    | (exfalso;simp [ltL] at h)
  obtain ⟨v0,vr,rfl,e1,r1⟩:=r1;obtain ⟨w0,wr,rfl,e2,r2⟩:=r2;rcases hcase with ⟨m,n,rfl,rfl⟩ | ⟨m,n,rfl,rfl⟩
  ·cases (show v0=V.int m from e1)
   cases (show w0=V.int n from e2)
   cases v1 with
   | cons q1 v1=>
    cases v2 with
    | cons q2 v2=>
     obtain ⟨t,rfl⟩:=q1;obtain ⟨u,rfl⟩:=q2;rw [List.zip_cons_cons];refine PySem.W.kat_cons (wpAny_eqBool_int (PySem.W.kat_go (λhe=> ?_) λhe=> ?_))
     ·have e:m=n:=by simpa using he
      rw [show ltL (.int m::xs) (.int n::ys)=if m=n then ltL xs ys else some (decide (m < n)) from rfl,if_pos e] at h
      exact PySem.W.kat_yes (ZFV r1 r2 v1 v2 h (by simpa using hf) hq)
     ·have e:m≠n:=by simpa using he
      rw [show ltL (.int m::xs) (.int n::ys)=if m=n then ltL xs ys else some (decide (m < n)) from rfl,if_neg e] at h
      cases h;exact PySem.W.kat_no (ZRN hq)
  ·cases (show v0=V.str m from e1)
   cases (show w0=V.str n from e2)
   cases v1 with
   | cons q1 v1=>
    cases v2 with
    | cons q2 v2=>
     obtain ⟨t,rfl⟩:=q1;obtain ⟨u,rfl⟩:=q2;rw [List.zip_cons_cons];refine PySem.W.kat_cons (wpAny_eqBool_str (PySem.W.kat_go (λhe=> ?_) λhe=> ?_))
     ·have e:m=n:=by simpa using he
      rw [show ltL (.str m::xs) (.str n::ys)=if m=n then ltL xs ys else some (decide (m.cps.toList < n.cps.toList)) from rfl,if_pos e] at h
      exact PySem.W.kat_yes (ZFV r1 r2 v1 v2 h (by simpa using hf) hq)
     ·have e:m≠n:=by simpa using he
      rw [show ltL (.str m::xs) (.str n::ys)=if m=n then ltL xs ys else some (decide (m.cps.toList < n.cps.toList)) from rfl,if_neg e] at h
      cases h;exact PySem.W.kat_no (ZRQ hq)
end
section
variable {X:Cx} {E:XK} {pins:List (Addr×Obj)} {σ:St} {s:Shared} {H:Hp} {h':Heap}
theorem ZHX {t':Nat} (I:Inv X pins σ H s) (k:∀b o,b≠X.env.locals->s.heap.get? b=some o->h'.get? b=some o) (ns:∀m,s.heap.Ns X.env.locals m->h'.Ns X.env.locals m):Inv X pins σ H {s with heap:=h',toks:=t'}:=by
 refine I.step (g':=s.gens) (d':=s.drawn) (ch:= []) (λ_ z=>nomatch z) (λb o hL _ _ e _=>k b o hL e) (λb o hL _ _ e _=>⟨o.slots,k b o hL e⟩) (λ_ _ _ _ n=>n) (λb o _ e=> ?_) (λ_ _ e=>e) (λ_ _ _ e=>e)
  (λb ps e=>⟨#[],by rw [e];simp⟩) ns (λb u e=> ?_) I.bare
 ·by_cases hb:b=X.env.locals
  ·obtain ⟨m,hn,_⟩:=I.loc;obtain ⟨o',_,_,ho',_⟩:=ns m hn;exact ⟨o',by rw [hb];exact ho'⟩
  ·exact ⟨o,k b o hb e⟩
 ·have nL:∀c w,H c=some w->c≠X.env.locals:=λc w e z=>by rw [z,I.free] at e;cases e
  refine (I.hok b u e).stay (λc v hc q=>k c v ?_ q) (λ_ q=>q) λ_ _ q=>q
  rcases hc with z | z
  ·rw [z];exact nL b u e
  ·exact nL c _ z
end
section
variable {prog:Program} {w:World} {A:Around} {E:Value->Shared->Prop} {s:Shared}
theorem ZOR {l:Addr} {vs:List Value} {Q:Value->Shared->Prop} (hl:s.heap.IsList l vs.toArray) (hz:vs.length < 64)
  (h:∀h1,h1.get? (s.heap.objs.size + 1)=some (seqObj "list" vs.toArray 0)->(∀b o,s.heap.get? b=some o->h1.get? b=some o)->
   wpAny (model prog w) A.in1.in1 (Builtin.«list.sort» ⟨[.ref (s.heap.objs.size + 1)],[]⟩) (λfin s'=>fin=.done (.ret .none)/\Q (.ref (s.heap.objs.size + 1)) s') E {s with heap:=h1}):
  wpAny (model prog w) A (call (.builtin "sorted") [.ref l]) Q E s:=by
 have h64:vs.length<=sizeLine:=by rw [sizeLine_eq];lia
 refine Calls.call_function_entry kind_sorted plain_sorted entry_sorted (args_sorted1 _) ?_;unfold Builtin.«sorted»;refine wpAny_bind (m:=checkCount "sorted" 1 1 _) (wpAny_pure (wpAny_bind (collect_list hl (wpAny_bind (wpAny_newList ?_ h64)) h64)))
 generalize hh:(s.heap.push (seqObj "list" #[] 0)).update s.heap.objs.size (Obj.mapSeq (·++vs.toArray))=h0
 have e0:h0.objs.size=s.heap.objs.size + 1:=by rw [<-hh,Heap.size_update,size_push']
 have k0:∀b o,s.heap.get? b=some o->h0.get? b=some o:=λb o q=>by have hlt:b < s.heap.objs.size:=Heap.lt_size q;rw [<-hh,Heap.get?_update_ne _ _ _ _ (Nat.ne_of_lt hlt),Heap.get?_push_ne _ _ _ (Nat.ne_of_lt hlt)];exact q
 have hD:(h0.push (seqObj "list" vs.toArray 0)).get? (s.heap.objs.size + 1)=some (seqObj "list" vs.toArray 0):=by rw [<-e0];exact Heap.get?_push_size _ rfl
 have hq:=h (h0.push (seqObj "list" vs.toArray 0)) hD λb o q=>Heap.get?_push_of_some _ (k0 b o q)
 show wpAny _ _ _ _ _ {s with heap:=h0.push (seqObj "list" vs.toArray 0)};rw [e0];refine wpAny_bind (wpAny_holding (wpAny_call_entry slot_list_sort ⟨_,hD,rfl⟩ entry_list_sort ?_ (args_list_sort _)));refine wpAny_mono hq (λfin s' hf=> ?_) λ_ _ x=>x
 exact ⟨_,hf.1,wpAny_pure ⟨_,rfl,hf.2⟩⟩
theorem ZM2 {a:Addr} {vs:List Value} {n:Nat} {P:Fin->Shared->Prop} (ho:s.heap.get? a=some (seqObj "list" vs.toArray n)) (h2:vs.length < 2)
  (h:∀h' c,h'.get? a=some (seqObj "list" vs.toArray c)->(∀b o,b≠a->s.heap.get? b=some o->h'.get? b=some o)->P (.done (.ret .none)) {s with heap:=h'}):wpAny (model prog w) A (Builtin.«list.sort» ⟨[.ref a],[]⟩) P E s:=by
 have ha:a < s.heap.objs.size:=Heap.lt_size ho;have s1:=Heap.SameBut.update s.heap a (Obj.mapSeq λ_=>(#[]:Array Value));obtain ⟨e1,ho1⟩:∃e1,(s.heap.update a (Obj.mapSeq λ_=>(#[]:Array Value))).get? a=some (seqObj "list" #[] e1):=⟨_,get?_update_seq ho λ_=> #[]⟩;rw [list_sort_plain];refine wpAny_bind (listItems_at ho rfl (wpAny_bind (listUpdate_at ho rfl ?_ (by rw [List.size_toArray,sizeLine_eq];lia) (Nat.zero_le _))))
 refine wpAny_bind (seqEpoch_at ho1 rfl (wpAny_bind (wpAny_newTuple (wpAny_bind (wpAny_newList (wpAny_holding ?_) (Nat.zero_le _))) (by show vs.length<=_;rw [sizeLine_eq];lia))));dsimp only;have hn2:vs.toArray.size < 2:=by rw [List.size_toArray];lia
 rw [if_pos hn2,if_pos hn2];refine wpAny_bind (wpAny_pure (wpAny_bind (wpAny_of_eq (a:=((),SortSt.mk' general' (vs.toArray.zip vs.toArray) #[] 7 none)) rfl ?_)));dsimp only
 have hout:(arrOf (SortSt.mk' general' (vs.toArray.zip vs.toArray) #[] 7 none)).map (·.2)=vs.toArray:=by
  show (vs.toArray.zip vs.toArray).map (·.2)=vs.toArray
  refine Array.ext (by simp) λi h1 h2=>by simp
 rw [hout];generalize hh:((s.heap.update a (Obj.mapSeq λ_=>(#[]:Array Value))).push {cls:=.type "tuple",data:=.seq vs.toArray.toList.toArray}).push {cls:=.type "list",data:=.seq ([]:List Value).toArray}=h3;have ho3:h3.get? a=some (seqObj "list" #[] e1):=by rw [<-hh];exact Heap.get?_push_of_some _ (Heap.get?_push_of_some _ ho1)
 have k3:∀b o,b≠a->s.heap.get? b=some o->h3.get? b=some o:=λb o hb q=>by rw [<-hh];exact Heap.get?_push_of_some _ (Heap.get?_push_of_some _ (s1.extBut b o hb q))
 refine wpAny_bind (seqEpoch_at (o:=seqObj "list" #[] e1) ?_ rfl ?_)
 ·exact ho3
 have s2:=Heap.SameBut.update h3 a (Obj.mapSeq λ_=>vs.toArray);obtain ⟨c2,hc2⟩:∃c2,(h3.update a (Obj.mapSeq λ_=>vs.toArray)).get? a=some (seqObj "list" vs.toArray c2):=⟨_,get?_update_seq ho3 λ_=>vs.toArray⟩;refine wpAny_bind (listUpdate_at ho3 rfl ?_ (Nat.zero_le _) (by show vs.toArray.size<=_;rw [List.size_toArray,sizeLine_eq];lia));simp only [bne_self_eq_false,Bool.false_eq_true,if_false];exact wpAny_pure (h _ c2 hc2 λb o hb q=>s2.extBut b o hb (k3 b o hb q))
end
theorem ZLe:bootBuiltins "sorted"=some (.builtin "sorted"):=by decide +kernel
section
variable {X:Cx} {E:XK} {pins:List (Addr×Obj)} {σ:St} {s:Shared} {H:Hp}
theorem Xx (I:Inv X pins σ a.H s) (hk:a.K=X.K) {u:Value} (r:Rep a d v) (ru:RelV v u) (h:d=.tup xs):∃p o vs us n,u=.ref p/\s.heap.get? p=some o/\o.cls=.type "tuple"/\o.data=.seq us n/\Vals vs us.toList/\Reps a xs vs:=by subst h;obtain ⟨p,vs,rfl,hq,rv⟩:=r;cases ru;rw [hk] at hq;obtain ⟨its,rr,⟨o,ho,hc,n,hd⟩,hz⟩:=I.tuple hq;exact ⟨p,o,vs,its.toArray,n,rfl,ho,hc,hd,by simpa using rr,rv⟩
theorem ZMc (h:isIt d=true):∃i r,d=.tup (.int i::r):=by
 unfold isIt at h;split at h
 ·exact ⟨_,_,rfl⟩
 ·cases h
theorem ZPw (h:Ve d=true):∃i r,d=.tup (.str i::r):=by
 unfold Ve at h;split at h
 ·exact ⟨_,_,rfl⟩
 ·cases h
theorem ZHq (I:Inv X pins σ a.H s) (hk:a.K=X.K):∀{xs:List D} {vs:List V} {us:List Value},Reps a xs vs->Vals vs us->xs.all isIt=true->∃fs,PySem.W.KatTups s.heap us fs/\fs.length=us.length/\∀v∈fs,∃i t,v=.int i t
 | [],vs,us,r,v,h=>by
  cases (show vs= [] from r);cases v
  exact ⟨[],.nil,rfl,λ_ hm=>nomatch hm⟩
 | d::xs,vs,us,r,v,h=>by
  rw [List.all_cons,Bool.and_eq_true] at h;obtain ⟨v0,vr,rfl,e1,r1⟩:=r;cases v with
  | cons q1 v1=>
   obtain ⟨i,rr,rfl⟩:=ZMc h.1;obtain ⟨p,o,ws,zs,n,rfl,ho,hc,hd,hv,hr⟩:=Xx I hk e1 q1 rfl;obtain ⟨w0,wr,rfl,g1,g2⟩:=hr
   cases (show w0=V.int i from g1)
   obtain ⟨fs,k1,k2,k3⟩:=ZHq I hk r1 v1 h.2;have hz:∃t,zs[0]? =some (.int i t):=by
    cases hz:zs.toList with
    | nil=>rw [hz] at hv;cases hv
    | cons z zr=>
     rw [hz] at hv;cases hv with
     | cons q _=>
      obtain ⟨t,rfl⟩:=q;exact ⟨t,by rw [<-Array.getElem?_toList,hz];rfl⟩
   obtain ⟨t,hz⟩:=hz;refine ⟨.int i t::fs,.cons ho hc hd hz k1,by simp [k2],λv hm=> ?_⟩;rcases List.mem_cons.mp hm with rfl | hm
   ·exact ⟨i,t,rfl⟩
   ·exact k3 v hm
theorem ZHh (I:Inv X pins σ a.H s) (hk:a.K=X.K):∀{xs:List D} {vs:List V} {us:List Value},Reps a xs vs->Vals vs us->xs.all Ve=true->∃fs,PySem.W.KatTups s.heap us fs/\fs.length=us.length/\∀v∈fs,∃i t,v=.str i t
 | [],vs,us,r,v,h=>by
  cases (show vs= [] from r);cases v
  exact ⟨[],.nil,rfl,λ_ hm=>nomatch hm⟩
 | d::xs,vs,us,r,v,h=>by
  rw [List.all_cons,Bool.and_eq_true] at h;obtain ⟨v0,vr,rfl,e1,r1⟩:=r;cases v with
  | cons q1 v1=>
   obtain ⟨i,rr,rfl⟩:=ZPw h.1;obtain ⟨p,o,ws,zs,n,rfl,ho,hc,hd,hv,hr⟩:=Xx I hk e1 q1 rfl;obtain ⟨w0,wr,rfl,g1,g2⟩:=hr
   cases (show w0=V.str i from g1)
   obtain ⟨fs,k1,k2,k3⟩:=ZHh I hk r1 v1 h.2;have hz:∃t,zs[0]? =some (.str i t):=by
    cases hz:zs.toList with
    | nil=>rw [hz] at hv;cases hv
    | cons z zr=>
     rw [hz] at hv;cases hv with
     | cons q _=>
      obtain ⟨t,rfl⟩:=q;exact ⟨t,by rw [<-Array.getElem?_toList,hz];rfl⟩
   obtain ⟨t,hz⟩:=hz;refine ⟨.str i t::fs,.cons ho hc hd hz k1,by simp [k2],λv hm=> ?_⟩;rcases List.mem_cons.mp hm with rfl | hm
   ·exact ⟨i,t,rfl⟩
   ·exact k3 v hm
theorem ZFo {ws:List V} {us:List Value} {Q:VK} {h2:Heap} {c:Nat} (I:Inv X pins σ a.H s) (sm:Sim a G) (q:out E a (.ok (.ref G.length) (G++ [.lst ys])) Q) (r:Reps a ys ws) (v:Vals ws us) (hz:us.length < 64)
  (hD:h2.get? (s.heap.objs.size + 1)=some (seqObj "list" us.toArray c)) (k:∀b o,b≠X.env.locals->s.heap.get? b=some o->h2.get? b=some o) (ns:∀m,s.heap.Ns X.env.locals m->h2.Ns X.env.locals m):
  EP X pins σ Q (.ref (s.heap.objs.size + 1)) {s with heap:=h2}:=by
 have hle:s.heap.objs.size<=s.heap.objs.size + 1:=Nat.le_succ _;obtain ⟨g0,g1,g2,g3,g4,g5⟩:=I.Ks (H':=a.H) hle (I.hok.fresh hle);have I2:Inv X pins σ a.H {s with heap:=h2}:=ZHX (t':=s.toks) I k ns;refine ⟨.ref (s.heap.objs.size + 1),_,ZFH I2 g0 (Nat.le_trans I.sz hle) g1 g4 g5 (o:=.lst ws) ⟨?_,us,c,v,hD⟩,rfl,La sm r q _ g0⟩;rw [v.length,sizeLine_eq];lia
end
section
variable {X:Cx} {E:XK}
theorem ZKE (h:Px xs=true) {x y:D} (hx:x∈xs) (hy:y∈xs):∃k,ltD x y=some k:=by unfold Px at h;rw [Bool.and_eq_true] at h;exact Option.isSome_iff_exists.mp (List.all_eq_true.mp (List.all_eq_true.mp h.2 x hx) y hy)
theorem ZQj {x y:D} {k:Bool} (h:ltD x y=some k):∃xs ys,x=.tup xs/\y=.tup ys/\ltL xs ys=some k:=by
 unfold ltD at h;split at h
 ·exact ⟨_,_,rfl,rfl,h⟩
 ·cases h
theorem ZIc (r:Reps a xs vs):∀l:List Nat,(∀i∈l,i < xs.length)->Reps a (l.map λi=>xs.getD i .non) (l.map λi=>vs.getD i .non)
 | [],_=>rfl
 | i::l,h=>by
  have hi:i < xs.length:=h i List.mem_cons_self;obtain ⟨v,ev,rv⟩:=r.get (i:=i) (d:=xs[i]) (List.getElem?_eq_getElem hi);refine ⟨vs.getD i .non,_,rfl,?_,ZIc r l λj hj=>h j (List.mem_cons_of_mem _ hj)⟩;have e1:xs.getD i .non=xs[i]:=by simp [hi]
  have e2:vs.getD i .non=v:=by rw [List.getD_eq_getElem?_getD,ev];rfl
  show Rep a (xs.getD i .non) (vs.getD i .non);rw [e1,e2];exact rv
theorem ZJo {us:List Value} (r:Vals vs us):∀l:List Nat,(∀i∈l,i < vs.length)->Vals (l.map λi=>vs.getD i .non) (l.map λi=>us.getD i .none)
 | [],_=>.nil
 | i::l,h=>by
  have hi:i < vs.length:=h i List.mem_cons_self;obtain ⟨u,eu,ru⟩:=r.get (i:=i) (x:=vs[i]) (List.getElem?_eq_getElem hi);rw [List.map_cons,List.map_cons];have e1:vs.getD i .non=vs[i]:=by simp [hi]
  have e2:us.getD i .none=u:=by rw [List.getD_eq_getElem?_getD,eu];rfl
  rw [e1,e2];exact .cons ru (ZJo r l λj hj=>h j (List.mem_cons_of_mem _ hj))
theorem ZJN {n:Nat} {lt:Nat->Nat->Bool} {P:Array Nat->Prop}:∀{t:PySem.W.KasT (Array Nat)},Safe n P t->P (Bv lt t)
 | .ret _,h=>h
 | .ask i j k,h=>ZJN (t:=k (lt i j)) (h.2.2 (lt i j))
theorem ZGV {n:Nat}:∀f {p:Array Nat} k,Ents n p->Safe n (Ents n) (PySem.W.kas_bin f p k)
 | 0,p,k,h=>h
 | f + 1,p,k,h=>Safe.bind (P:=λ_=>True) (λa _=>ZGV f _ (h.perm (bubble_perm ..))) (Ym h k _ _ _)
theorem ZHm {n:Nat} (hn:0 < n):Safe n (Ents n) (PySem.W.kas_sort n):=
 Safe.bind (P:=λr=>Ents n r.2) (λa ha=>by
  split
  ·exact ZGV _ _ ha
  ·exact ha) (ZJL ⟨hn,Array.Perm.refl _⟩ _)
theorem ZSW:CallR X (.builtin "sorted") (lRn X.K E Tf):=by
 intro pins s σ H vs us Q I rs h;obtain ⟨a,G,ds,hk,rfl,sm,r,q⟩:=h;unfold Tf at q;split at q
 ·rename_i d;obtain ⟨v,rfl,rv⟩:=reps1 r;split at q
  ·rename_i xs hs;split at q
   ·rename_i hc;obtain ⟨p,ws,rfl,h1,r1⟩:=V0 sm rv hs;rw [hk] at h1;obtain ⟨u,rfl,ru⟩:=vals1 rs;cases ru;obtain ⟨its,hv,pl,hz⟩:=I.list h1;have hlx:xs.length=its.length:=r1.length.trans hv.length;refine ZOR pl.isList (by lia) λh1 hD k1=> ?_
    obtain ⟨m,hn,_⟩:=id I.loc;have hns1:h1.Ns X.env.locals m:=hn.keeps k1;have hDL:s.heap.objs.size + 1≠X.env.locals:=Nat.ne_of_gt (Nat.lt_succ_of_lt I.lt);have nsAll:∀{h2:Heap},h2.Ns X.env.locals m->∀m',s.heap.Ns X.env.locals m'->h2.Ns X.env.locals m':=λ{h2} hh m' hm'=>by have e1:=hn.eq_nsMap;have e2:=hm'.eq_nsMap;rw [e2,<-e1];exact hh
    by_cases hlen:xs.length < 2
    ·refine ZM2 (s:={s with heap:=h1}) hD (by lia) λh2 c hD2 k2=>⟨rfl,?_⟩
     have es:M5 xs=xs:=by unfold M5;rw [if_pos hlen]
     rw [es] at q;refine ZFo I sm q r1 hv (by lia) hD2 (λb o hb e=>k2 b o ?_ (k1 b o e)) (nsAll (hns1.at λo e=>k2 _ o (Ne.symm hDL) e));exact Nat.ne_of_lt (Nat.lt_succ_of_lt (Heap.lt_size e))
    ·have es:M5 xs=(Bv (ltI xs) (PySem.W.kas_sort xs.length)).toList.map λi=>xs.getD i .non:=by unfold M5;rw [if_neg hlen]
     rw [es] at q;refine PySem.W.kat_list_sort (s:={s with heap:=h1}) (Att.ZN4 hns1) (news:=Att.ledger h1 X.env.locals (s.heap.objs.size + 1)) ?_ hD hDL (Att.ZDl _ _) (λ⟨_,_⟩ hp=>(Att.V3.mp hp).2.1) (by lia) (by lia) λe1 h2 F2 N2=> ?_
     ·rintro ⟨b,o⟩ hp;obtain ⟨n1,n2,e⟩:=Att.V3.mp hp;exact ⟨e,n1,Att.ZDl _ _⟩
     have k2:∀b o,b≠X.env.locals->s.heap.get? b=some o->h2.get? b=some o:=λb o hb e=>
      (N2 (b,o) (List.mem_cons_of_mem _ (Att.V3.mpr ⟨hb,Nat.ne_of_lt (Nat.lt_succ_of_lt (Heap.lt_size e)),k1 b o e⟩))).1
     have I2:Inv X pins σ a.H {s with heap:=h2}:=ZHX (t':=s.toks) I k2 (nsAll F2.ns);have hpos:0 < its.length:=by lia
     have fin:(PySem.W.kas_sort its.length).kasWp (PySem.W.kas_ask X.prog X.w X.A.in1.in1 (tuples' true) its) (λp s''=>PySem.W.KasFin (Att.ZA1 h1) X.env.locals m (s.heap.objs.size + 1) e1 (p.toList.map λi=>its.getD i Value.none) (λs3=>PySem.Fin.done (.ret .none)=PySem.Fin.done (.ret .none)/\EP X pins σ Q (.ref (s.heap.objs.size + 1)) s3) s'') {s with heap:=h2}:=by
      refine ZG9 (lt:=ltI xs) (λi j hi hj C hC=> ?_) (ZHm hpos) ?_
      ·have hxi:i < xs.length:=by lia
       have hxj:j < xs.length:=by lia
       obtain ⟨v1,ev1,rv1⟩:=r1.get (i:=i) (d:=xs[i]) (List.getElem?_eq_getElem hxi);obtain ⟨v2,ev2,rv2⟩:=r1.get (i:=j) (d:=xs[j]) (List.getElem?_eq_getElem hxj);obtain ⟨u1,eu1,ru1⟩:=hv.get ev1;obtain ⟨u2,eu2,ru2⟩:=hv.get ev2;obtain ⟨k,hlt⟩:=ZKE hc.2 (List.getElem_mem hxi) (List.getElem_mem hxj);obtain ⟨as,bs,ea,eb,hlL⟩:=ZQj hlt;obtain ⟨p1,o1,vs1,us1,n1,rfl,ho1,_,hd1,hv1,hr1⟩:=Xx I2 hk rv1 ru1 ea;obtain ⟨p2,o2,vs2,us2,n2,rfl,ho2,_,hd2,hv2,hr2⟩:=Xx I2 hk rv2 ru2 eb
       have hC':C k {s with heap:=h2}:=by
        have:ltI xs i j=k:=by
         unfold ltI;have e1:xs.getD i .non=xs[i]:=by simp [hxi]
         have e2:xs.getD j .non=xs[j]:=by simp [hxj]
         rw [e1,e2,hlt];rfl
        rw [<-this];exact hC
       unfold PySem.W.kas_ask;have g1:its.getD i Value.none=.ref p1:=by rw [List.getD_eq_getElem?_getD,eu1];rfl
       have g2:its.getD j Value.none=.ref p2:=by rw [List.getD_eq_getElem?_getD,eu2];rfl
       rw [g1,g2];exact PySem.W.kat_lt ho1 hd1 ho2 hd2 (ZFV hr1 hr2 hv1 hv2 hlL (by simp) hC')
      ·have hen:Ents its.length (Bv (ltI xs) (PySem.W.kas_sort its.length)):=ZJN (ZHm hpos);rw [hlx] at q;refine PySem.W.KasFin.intro F2 N2 (.head λ⟨_,_⟩ hp=>(Att.V3.mp hp).2.1) λh3 c F3 N3=>⟨rfl,?_⟩
       have hin:∀i∈(Bv (ltI xs) (PySem.W.kas_sort its.length)).toList,i < its.length:=λi hi=>hen.lt (by simpa using hi)
       refine ZFo I sm q (ZIc r1 _ λi hi=>by rw [hlx];exact hin i hi) (ZJo hv _ λi hi=>by rw [hv.length];exact hin i hi) ?_ (N3 _ List.mem_cons_self).1 (λb o hb e=> ?_) (nsAll F3.ns)
       ·rw [hlx] at es;have:=hc.1.2;rw [es] at this;simpa using this
       ·exact (N3 (b,o) (List.mem_cons_of_mem _ (Att.V3.mpr ⟨hb,Nat.ne_of_lt (Nat.lt_succ_of_lt (Heap.lt_size e)),k1 b o e⟩))).1
     unfold Px at hc;rw [Bool.and_eq_true,Bool.or_eq_true] at hc;rcases hc.2.1 with hall | hall
     ·obtain ⟨fs,t1,t2,t3⟩:=ZHq I2 hk r1 hv hall;refine PySem.W.kat_kind (T:=.type "int") t1 (by lia) (λv hm=> ?_) (by decide) ?_
      ·obtain ⟨i,t,rfl⟩:=t3 v hm;exact PySem.W.Looks.now
      ·exact fin
     ·obtain ⟨fs,t1,t2,t3⟩:=ZHh I2 hk r1 hv hall;refine PySem.W.kat_kind (T:=.type "str") t1 (by lia) (λv hm=> ?_) (by decide) ?_
      ·obtain ⟨i,t,rfl⟩:=t3 v hm;exact PySem.W.Looks.now
      ·exact fin
   ·exact q.elim
  ·exact q.elim
 ·exact q.elim
end
section
variable {S:DSt} {G:DH}
@[simp] theorem ZUz {to ti:DE} {f:D->D->DH->R D}:Qe to ti te f S G=(to S G).toS λo G1=>(ti S G1).toS λi G2=>(ixL o i G2).toS λx G3=>(te S G3).toS λy G4=>(f x y G4).toS λz G5=>(Lb o i z G5).toS λ_ G6=>.nx S G6:=id rfl
theorem Vi {p:Nat} {k:Int} (h:G[p]? =some (.lst xs)) (e:atI xs k=some d):ixL (.ref p) (.int k) G=.ok d G:=by unfold ixL;simp only;rw [h];simp only;rw [e]
noncomputable def Dy (xs:List D):List D:=xs.zipIdx.map λq=>.tup [.int q.2,q.1]
noncomputable def Pq (xs ys:List D):List D:=(xs.zip ys).map λq=>.tup [q.1,q.2]
theorem ZGW {f:Nat->DH->Option (Option D)} {b:DS} (h:∀j G,f j G=some xs[j]?):∀(n j:Nat),j + n=xs.length->∀S G,Ef f g b n j S G=Bg g b (xs.drop j) S G
 | 0,j,e,S,G=>by
  unfold Ef;rw [h,List.getElem?_eq_none (by lia),List.drop_of_length_le (by lia)]
  rfl
 | n + 1,j,e,S,G=>by
  have hj:j < xs.length:=by lia
  unfold Ef;rw [h,List.getElem?_eq_getElem hj,List.drop_eq_getElem_cons hj,Dk];have:Ef f g b n (j + 1)=Bg g b (xs.drop (j + 1)):=by funext S G;exact ZGW h n (j + 1) (by lia) S G
  rw [this]
theorem Zv {f:Nat->DH->Option (Option D)} {b:DS} {n:Nat} (h:∀j G,f j G=some xs[j]?) (hn:n=xs.length):Ef f g b n 0 S G=Bg g b xs S G:=by rw [ZGW h n 0 (by lia)];rfl
theorem ZB1 (j:Nat) (G:DH):Gd 0 (.fl xs) j G=some (Dy xs)[j]? :=by
 unfold Gd Dy;simp only [Bs,List.getElem?_map,List.getElem?_zipIdx]
 cases xs[j]? <;> simp
theorem ZLw (j:Nat) (G:DH):Gd 0 (.tup xs) j G=some (Dy xs)[j]? :=by
 unfold Gd Dy;simp only [Bs,List.getElem?_map,List.getElem?_zipIdx]
 cases xs[j]? <;> simp
theorem K9:(Dy xs).length=xs.length:=by simp [Dy]
@[simp] theorem ZUN:Ip [.fl xs] G=.ok (.fn xs.length (Gd 0 (.fl xs))) G:=by simp [Ip,Ku,Bs,lenOf]
@[simp] theorem ZOV {b:DS} :Ef (Gd 0 (.fl xs)) g b xs.length 0 S G=Bg g b (Dy xs) S G:=Zv ZB1 K9.symm
@[simp] theorem ZUZ {b:DS} :Ef (Gd 0 (.tup xs)) g b xs.length 0 S G=Bg g b (Dy xs) S G:=Zv ZLw K9.symm
theorem ZIv {f:Nat->DH->Option (Option D)} {c:DB} {F:D->Option D} (hf:∀j,f j G=some xs[j]?) (h:∀x∈xs,CStep g c te S G x (F x)):
  ∀(n j:Nat),xs.length<=j + n->Dz f g c te S n j G=.ok ((xs.drop j).filterMap F) G
 | 0,j,hj=>by
  unfold Dz;rw [hf,List.getElem?_eq_none (by lia)];simp only;rw [List.drop_of_length_le (by lia)]
  rfl
 | n + 1,j,hj=>by
  unfold Dz;rw [hf];by_cases hlt:j < xs.length
  ·have ih:=ZIv hf h n (j + 1) (by lia);obtain ⟨S1,h1,h2⟩:=h xs[j] (List.getElem_mem hlt);rw [List.getElem?_eq_getElem hlt];simp only [h1,R.Lg];rw [List.drop_eq_getElem_cons hlt,List.filterMap_cons];rcases h2 with ⟨h2,h3⟩ | ⟨h2,d,h3,h4⟩
   ·simp [h2,h3,ih]
   ·simp [h2,h3,h4,ih]
  ·rw [List.getElem?_eq_none (by lia),List.drop_of_length_le (by lia)]
   rfl
theorem ZAk {f:Nat->DH->Option (Option D)} {c:DB} {F:D->Option D} {n:Nat} (hf:∀j,f j G=some xs[j]?) (h:∀x∈xs,CStep g c te S G x (F x)) (hn:xs.length<=n):
  Dz f g c te S n 0 G=.ok (xs.filterMap F) G:=ZIv hf h n 0 (by lia)
theorem ZGX {e:D} (hd:Bs d G=some xs) (he:Bs e G=some ys) (j:Nat):Hi [d,e] j G=some (Pq xs ys)[j]? :=by
 unfold Hi Pq;simp only [Hv,hd,he,List.getElem?_map,List.getElem?_zip_eq_some]
 have ez:(xs.zip ys)[j]? =match xs[j]?,ys[j]? with
  | some x,some y=>some (x,y)
  | _,_=>none:=by
  rw [List.zip,List.getElem?_zipWith]
  cases xs[j]? <;> cases ys[j]? <;> rfl
 rw [ez];cases xs[j]? with
 | none=>rfl
 | some x=>
  cases ys[j]? with
  | none=>rfl
  | some y=>rfl
theorem ZGH {e:D} (hd:Bs d G=some xs) (he:Bs e G=some ys):Ig 2 [d,e] G=.ok (.fn xs.length (Hi [d,e])) G:=by simp [Ig,Ku,hd,he,lenOf]
@[simp] theorem ZHL:Bs (.fl xs) G=some xs:=id rfl
@[simp] theorem W9:Bs (.tup xs) G=some xs:=id rfl
theorem ZSK {i:Nat} (h:G[i]? =some (.lst xs)):Bs (.ref i) G=some xs:=by simp [Bs,h]
theorem ZQQ {n:Int} {ns:List Int} (h:Bs d G=some ((n::ns).map D.int)):Oj [d] G=.ok (.int (ns.foldl min n)) G:=by simp only [Oj,h,ZEV]
theorem ZQ8 {n:Int} {ns:List Int} (h:Bs d G=some ((n::ns).map D.int)):Pn [d] G=.ok (.int (ns.foldl max n)) G:=by simp only [Pn,h,ZEV]
theorem ZI0 {p:Nat} (h:G[p]? =some (.lst [d])) (hk:k<=1000000):Kq (.ref p) (.int (k:Int)) G=.ok (.ref G.length) (G++ [.lst (List.replicate k d)]):=by
 unfold Kq;simp only;rw [h];simp only;have e:(List.replicate k [d]).flatten=List.replicate k d:=by
  induction k with
  | zero=>rfl
  | succ k ih=>rw [List.replicate_succ,List.flatten_cons,ih (by lia),List.replicate_succ];rfl
 rw [if_pos ⟨by lia,by lia,by simpa using hk⟩,Int.toNat_natCast,e]
end
noncomputable def Bts (i:Int):Prop:=i.natAbs.log2 < 33554432
noncomputable def MulB (i j:Int):Prop:=CMul i j∨(Bts i/\Bts j)
noncomputable instance (i:Int):Decidable (Bts i):=by unfold Bts;infer_instance
noncomputable instance (i j:Int):Decidable (MulB i j):=by unfold MulB;infer_instance
theorem MulB.ok {i j:Int} (h:MulB i j):IntMulOk i j:=by
 rcases h with h | ⟨h1,h2⟩
 ·exact h.ok
 ·have b:∀k:Int,Bts k->Builtin.Int.intBits k<=33554432:=λk hk=>by
   unfold Builtin.Int.intBits;split
   ·exact Nat.zero_le _
   ·exact hk
  have c1:=b i h1;have c2:=b j h2;have h:Builtin.Int.intTooBig (Builtin.Int.intBits i + Builtin.Int.intBits j)=false:=by unfold Builtin.Int.intTooBig bitsLine;exact decide_eq_false (by lia)
  unfold IntMulOk;rw [h];simp
section
variable {X:Cx} {E:XK}
theorem ZMn:OpR X (binaryOp .Mult) (rI MulB λi j=>.int (i * j)):=opI λ_ _ _ _ _ _ _ hc q=>mul_int q hc.ok
end
section
variable {i j:Int} {G:DH}
end
section
variable {X:Cx} {E:XK}
end
noncomputable def Hc (f:Str) (v:D):List (Str×D)->List (Str×D)
 | []=> [(f,v)]
 | (g,x)::r=>if g=f then (g,v)::r else (g,x)::Hc f v r
theorem RepF.mono {b:Wd} (x:Ext a b) {fs:List (Str×D)} (h:RepF a fs us):RepF b fs us:=⟨h.1,h.2.mono x⟩
theorem RepF.cons {g:Str} {fs:List (Str×D)} (h:Rep a d v) (r:RepF a fs us):RepF a ((g,d)::fs) ((g,v)::us):=
 ⟨by simp [r.1],v,us.map (·.2),rfl,h,r.2⟩
theorem RepF.uncons {g:Str} {fs:List (Str×D)} (h:RepF a ((g,d)::fs) us):∃v us',us=(g,v)::us'/\Rep a d v/\RepF a fs us':=by
 obtain ⟨h1,h2⟩:=h;cases us with
 | nil=>simp at h1
 | cons q us=>
  obtain ⟨g',y⟩:=q;simp only [List.map_cons,List.cons.injEq] at h1;obtain ⟨rfl,h1⟩:=h1;obtain ⟨v,r,e1,r1,r2⟩:=h2;simp only [List.map_cons,List.cons.injEq] at e1;obtain ⟨rfl,rfl⟩:=e1;exact ⟨y,us,rfl,r1,h1,r2⟩
theorem RepF.nil' (h:RepF a [] us):us= []:=by
 obtain ⟨h1,_⟩:=h;cases us with
 | nil=>rfl
 | cons q us=>simp at h1
theorem lkc {α:Type} {f g:Str} {x:α} {fs:List (Str×α)}:List.lookup f ((g,x)::fs)=if (f == g)=true then some x else fs.lookup f:=by
 show (match f == g with
  | true=>some x
  | false=>List.lookup f fs)=_
 cases f == g <;> rfl
theorem RepF.look {f:Str} :∀{fs:List (Str×D)} {us:List (Str×V)},RepF a fs us->fs.lookup f=some d->∃u,us.lookup f=some u/\Rep a d u
 | [],us,h,e=>by simp at e
 | (g,x)::fs,us,h,e=>by
  obtain ⟨v,us',rfl,hv,hr⟩:=h.uncons;rw [lkc] at e ⊢;by_cases q:(f == g)=true
  ·rw [if_pos q] at e ⊢;cases e;exact ⟨v,rfl,hv⟩
  ·rw [if_neg q] at e ⊢;exact RepF.look hr e
theorem RepF.ZCx {f:Str}:∀{fs:List (Str×D)} {us:List (Str×V)},RepF a fs us->fs.lookup f=none->us.lookup f=none
 | [],us,h,e=>by rw [h.nil'];rfl
 | (g,x)::fs,us,h,e=>by
  obtain ⟨v,us',rfl,hv,hr⟩:=h.uncons;rw [lkc] at e ⊢;by_cases q:(f == g)=true
  ·rw [if_pos q] at e;cases e
  ·rw [if_neg q] at e ⊢;exact RepF.ZCx hr e
theorem RepF.put {f:Str} (q:Rep a d v):∀{fs:List (Str×D)} {us:List (Str×V)},RepF a fs us->RepF a (Hc f d fs) (Fl f v us)
 | [],us,h=>by rw [h.nil'];exact RepF.cons (fs:= []) (us:= []) q ⟨rfl,rfl⟩
 | (g,x)::fs,us,h=>by
  obtain ⟨w,us',rfl,hv,hr⟩:=h.uncons;unfold Hc Fl;by_cases e:g=f
  ·rw [if_pos e,if_pos e];exact .cons q hr
  ·rw [if_neg e,if_neg e];exact .cons hv (RepF.put q hr)
theorem RepF.len {fs:List (Str×D)} (h:RepF a fs us):us.length=fs.length:=by have:=congrArg List.length h.1;simpa using this.symm
theorem Ext.wrI {p C dx:Addr} {ho:HO} (h:a.H p=some (.ins C dx us)):Ext a (a.put p ho):=
 ⟨rfl,Nat.le_refl _,λ_ _=>rfl,λq xs e=>by
  show upd a.H p ho q=_;rw [Az (λz=>by subst z;rw [h] at e;cases e)];exact e,λq o u e=>by
  show upd a.H p ho q=_;rw [Az (λz=>by subst z;rw [h] at e;cases e)];exact e,λ_ t=>t.mono (λq ps e=>by show upd a.H p ho q=_;rw [Az (λz=>by subst z;rw [h] at e;cases e)];exact e) (λq o u e=>by show upd a.H p ho q=_;rw [Az (λz=>by subst z;rw [h] at e;cases e)];exact e)⟩
theorem Sim.wrI (s:Sim a G) {i:Nat} (hi:i < a.n) {c:Str} {C dx:Addr} {us':List (Str×V)} {fs':List (Str×D)} (hn:PySem.W.nsIn a.K mainGlobals c=some (some (.ref C))) (h:a.H (a.m i)=some (.ins C dx us)) (r:RepF (a.put (a.m i) (.ins C dx us')) fs' us'):
  Sim (a.put (a.m i) (.ins C dx us')) (G.set i (.ins c fs')):=by
 refine ⟨by rw [List.length_set];exact s.len,s.inj,λj o e=> ?_,λj hj=> ?_⟩
 ·rw [List.getElem?_set] at e;show ORep _ o (upd a.H (a.m i) (.ins C dx us') (a.m j));by_cases hij:i=j
  ·subst hij;rw [if_pos rfl,if_pos (by rw [s.len];exact hi)] at e;cases e;rw [Gg];exact ⟨C,dx,us',hn,rfl,r⟩
  ·rw [if_neg hij] at e;rw [Az λz=>hij (s.inj _ _ (s.lt e) hi z).symm];exact (s.obj j o e).mono (Ext.wrI h)
 ·show upd a.H (a.m i) (.ins C dx us') (a.m j)≠none;by_cases hij:a.m j=a.m i
  ·rw [hij,Gg];simp
  ·rw [Az hij];exact s.tr j hj
noncomputable def Ju (c:Str) (d:D) (G:DH):Option (List (Str×D)):=match d with
 | .ref i=>match G[i]? with
  | some (.ins c' fs)=>if c'=c then some fs else none
  | _=>none
 | _=>none
theorem Sim.ins {x:V} {c:Str} {fs:List (Str×D)} (s:Sim a G) (r:Rep a d x) (h:Ju c d G=some fs):
  ∃i C dx us,d=.ref i/\i < a.n/\x=.ref (a.m i)/\G[i]? =some (.ins c fs)/\PySem.W.nsIn a.K mainGlobals c=some (some (.ref C))/\a.H (a.m i)=some (.ins C dx us)/\RepF a fs us:=by
 unfold Ju at h;split at h
 ·rename_i i;split at h
  ·rename_i c' fs' e;split at h
   ·rename_i hc;subst hc;cases h;obtain ⟨l,ev⟩:=r;obtain ⟨C,dx,us,n,e1,r1⟩:=s.obj i _ e;exact ⟨i,C,dx,us,rfl,l,ev,e,n,e1,r1⟩
   ·cases h
  ·cases h
 ·cases h
noncomputable def Et (c:Str) (t:DE) (f:Str):DE:=λS G=>(t S G).bind λd G1=>match Ju c d G1 with
 | some fs=>match fs.lookup f with
  | some v=>.ok v G1
  | none=>.bad
 | none=>.bad
noncomputable def Gh (c:Str) (to tv:DE) (f:Str):DS:=λS G=>(tv S G).toS λd G1=>(to S G1).toS λo G2=>match o with
 | .ref i=>match Ju c o G2 with
  | some fs=>if fs.length < 1000 then .nx S (G2.set i (.ins c (Hc f d fs))) else .bad
  | none=>.bad
 | _=>.bad
noncomputable def Im (c:Str) (m:Str) (F:List D->DH->R D) (to:DE) (t:DA):DE:=λS G=>(to S G).bind λo G1=>match Ju c o G1 with
 | some fs=>match fs.lookup m with
  | none=>(t S G1).bind λds G2=>F (o::ds) G2
  | some _=>.bad
 | none=>.bad
noncomputable def ZEr (c:Str) (F:List D->DH->R D) (t:DA):DE:=λS G=>(t S G).bind λds G1=>(F (.ref G1.length::ds) (G1++ [.ins c []])).bind λv G2=>match v with
 | .non=>.ok (.ref G1.length) G2
 | _=>.bad
section
variable {X:Cx} {E:XK} {c f m:Str} {C:Addr} {e o:Expr} {es:List Expr} {t ta tv:DE} {tr:DA} {pos apos pos':Pos}
theorem Fj (hn:PySem.W.nsIn X.K mainGlobals c=some (some (.ref C))) (hc:Cls X.K C) (hf:NoAttr X.K C f) (ha:QE X E e t) (hb:attributeBase e f X.env (eval e X.env)=eval e X.env:=by rfl):QE X E (.Attribute e f pos) (Et c t f):=
 (ZL8 ha hb).mono λσ H Q h=>by
  obtain ⟨a,S,G,hk,rfl,s,r,h⟩:=h;refine ⟨a,S,G,hk,rfl,s,r,(Ge h).imp ?_⟩;rintro v _ ⟨b,d,G1,rfl,x,s1,q,-,h1⟩;split at h1
  ·rename_i fs hi;obtain ⟨i,C',dx,us,rfl,_,rfl,_,n',e1,r1⟩:=s1.ins q hi;have hCC:C'=C:=by
    rw [x.k,hk,hn] at n';cases n'
    rfl
   subst hCC;split at h1
   ·rename_i d' hd;obtain ⟨u,eu,ru⟩:=r1.look hd;exact ⟨b.m i,C',dx,us,u,rfl,e1,hc,hf,eu,h1 b u (Ext.refl b) s1 ru⟩
   ·exact h1.elim
  ·exact h1.elim
theorem Nf (hn:PySem.W.nsIn X.K mainGlobals c=some (some (.ref C))) (hc:Cls X.K C) (hf:NoAttr X.K C f) (ha:QE X E o ta) (hv:QE X E e tv) (hs:swapsWith e (some (.Attribute o f pos')) pos.line X.env=pure false:=by rfl):
  QS X E (.Assign [.Attribute o f pos'] e pos) (Gh c ta tv f):=
 (ZMl ha hv hs).mono λW σ H h=>by
  obtain ⟨a,S,G,hk,rfl,s,r,h⟩:=h;refine ⟨a,S,G,hk,rfl,s,r,(Hk h).imp ?_⟩;rintro v _ ⟨b,d,G1,rfl,x,s1,q,-,h1⟩;refine ⟨b,S,G1,x.k.trans hk,rfl,s1,r.mono x,(Hk h1).imp ?_⟩;rintro v2 _ ⟨b2,d2,G2,rfl,x2,s2,q2,-,h2⟩;split at h2
  ·rename_i i;split at h2
   ·rename_i fs hi;split at h2
    ·rename_i hl;obtain ⟨i',C',dx,us,ei,li,rfl,eg,n',e1,r1⟩:=s2.ins q2 hi;cases ei;have hCC:C'=C:=by
      rw [x2.k,x.k,hk,hn] at n';cases n'
      rfl
     subst hCC;have x3:Ext b2 (b2.put (b2.m i) (.ins C' dx (Fl f v us))):=Ext.wrI e1;have s3:=s2.wrI (fs':=Hc f d fs) li n' e1 (RepF.put ((q.mono x2).mono x3) (r1.mono x3));exact ⟨b2.m i,C',dx,us,rfl,e1,hc,hf,by rw [r1.len];exact hl,h2 _ σ x3 s3 (((r.mono x).mono x2).mono x3)⟩
    ·exact h2.elim
   ·exact h2.elim
  ·exact h2.elim
theorem ZQ4 {sp:List D->DH->R D} {σ:St} {H:Hp} {Q:VK} (hn:PySem.W.nsIn X.K mainGlobals c=some (some (.ref C))) (h:lE X.K E (Im c m F ta tr) σ H Q):ZDo C m (lF X.K F) [] E (lE X.K E ta) (lA X.K E tr) σ H Q:=by
 obtain ⟨a,S,G,hk,rfl,s,r,h⟩:=h;refine ⟨a,S,G,hk,rfl,s,r,(Ge h).imp ?_⟩;rintro v _ ⟨b,d,G1,rfl,x,s1,q,-,h1⟩;split at h1
 ·rename_i fs hi;obtain ⟨i,C',dx,us,rfl,_,rfl,_,n',e1,r1⟩:=s1.ins q hi;have hCC:C'=C:=by
   rw [x.k,hk,hn] at n';cases n'
   rfl
  subst hCC;split at h1
  ·rename_i hm;refine ⟨b.m i,dx,us,rfl,e1,r1.ZCx hm,b,S,G1,x.k.trans hk,rfl,s1,r.mono x,(Ny h1).imp ?_⟩;rintro vs _ ⟨b2,ds,G2,rfl,x2,s2,q2,-,h2⟩;exact ⟨b2,G2,.ref i::ds,(x2.k.trans x.k).trans hk,rfl,s2,⟨.ref (b.m i),vs,by rw [List.append_nil],q.mono x2,q2⟩,h2⟩
  ·exact h1.elim
 ·exact h1.elim
theorem Pb {g:Addr} {pl:Sem Bool} (hn:PySem.W.nsIn X.K mainGlobals c=some (some (.ref C))) (hc:Cls X.K C) (hm:Meth X.K C m g) (FF:FnOk X.prog X.w X.K X.mg X.base CX k g fd ps (lF X.K F)) (hr:Room k X.A) (hb:Binds X.K fd ps [])
  (hx:Passes CX X E) (ho:QE X E o ta) (ha:QA X E (e::es) tr) (he:notStar e=true:=by rfl) (hpl:es.all notStar=true:=by rfl)
  (ht:eval (.Call (.Attribute o m apos) (e::es) [] pos) X.env=(do
   let ov<-eval o X.env
   standAt apos.atName
   let (f,first)<-holding [ov] (getMethod ov m pl)
   callWith pos f first (backTo pos (starEach (e::es) X.env)) (backToKw pos (keywordEach [] X.env))):=by rfl):QE X E (.Call (.Attribute o m apos) (e::es) [] pos) (Im c m F ta tr):=
 (ZO2 (pl:=pl) ho hc hm FF hr hb .nil hx ha (O1 e es X.env he) (Ot pos X.env es hpl) ht).mono λσ H Q h=>ZQ4 (sp:=F) hn h
theorem ZGO {g:Addr} {pl:Sem Bool} (hn:PySem.W.nsIn X.K mainGlobals c=some (some (.ref C))) (hc:Cls X.K C) (hm:Meth X.K C m g) (FF:FnOk X.prog X.w X.K X.mg X.base CX k g fd ps (lF X.K F)) (hr:Room k X.A) (hb:Binds X.K fd ps [])
  (hx:Passes CX X E) (ho:QE X E o ta)
  (ht:eval (.Call (.Attribute o m apos) [] [] pos) X.env=(do
   let ov<-eval o X.env
   standAt apos.atName
   let (f,first)<-holding [ov] (getMethod ov m pl)
   callWith pos f first (backTo pos (starEach [] X.env)) (backToKw pos (keywordEach [] X.env))):=by rfl):QE X E (.Call (.Attribute o m apos) [] [] pos) (Im c m F ta Ae):=
 (ZP3 (pl:=pl) ho hc hm FF hr hb .nil hx ht).mono λσ H Q h=>by
  obtain ⟨a,S,G,hk,rfl,s,r,h⟩:=h;refine ⟨a,S,G,hk,rfl,s,r,(Ge h).imp ?_⟩;rintro v _ ⟨b,d,G1,rfl,x,s1,q,-,h1⟩;split at h1
  ·rename_i fs hi;obtain ⟨i,C',dx,us,rfl,_,rfl,_,n',e1,r1⟩:=s1.ins q hi;have hCC:C'=C:=by
    rw [x.k,hk,hn] at n';cases n'
    rfl
   subst hCC;split at h1
   ·rename_i hm;exact ⟨b.m i,dx,us,rfl,e1,r1.ZCx hm,b,G1,[.ref i],x.k.trans hk,rfl,s1,⟨.ref (b.m i),[],rfl,q,rfl⟩,h1⟩
   ·exact h1.elim
  ·exact h1.elim
theorem ZMu {ds:List D} {Q:VK} (hk:a.K=X.K) (hn:PySem.W.nsIn X.K mainGlobals c=some (some (.ref C))) (s:Sim a G) (q:Reps a ds vs)
  (h:out E a ((F (.ref G.length::ds) (G++ [.ins c []])).bind λv G2=>match v with
   | .non=>.ok (.ref G.length) G2
   | _=>.bad) Q):∀x dx,a.H x=none->a.H dx=none->dx≠x->lF X.K F (.ref x::(vs++ [])) (upd (upd a.H dx (.own x)) x (.ins C dx [])) (λv H2=>v=.non/\Q (.ref x) H2) E:=λp dx hp hdx hne=>by
 have x1:Ext a (a.put dx (.own p)):=Ext.put hdx;have s1:Sim (a.put dx (.own p)) G:=s.put hdx;have hp1:(a.put dx (.own p)).H p=none:=by show upd a.H dx (.own p) p=none;rw [Az λz=>hne z.symm];exact hp
 have x2:Ext (a.put dx (.own p)) ((a.put dx (.own p)).push p (.ins C dx [])):=Ext.push hp1;have s2:Sim ((a.put dx (.own p)).push p (.ins C dx [])) (G++ [.ins c []]):=s1.push hp1 ⟨C,dx,[],by show PySem.W.nsIn a.K mainGlobals c=_;rw [hk];exact hn,rfl,rfl,rfl⟩;have hgl:G.length=a.n:=s.len;have mnew:((a.put dx (.own p)).push p (.ins C dx [])).m a.n=p:=by show (if a.n=a.n then p else a.m a.n)=p;rw [if_pos rfl]
 have rp:Rep ((a.put dx (.own p)).push p (.ins C dx [])) (.ref G.length) (.ref p):=by rw [hgl];exact ⟨Nat.lt_succ_self _,by rw [mnew]⟩
 refine ⟨(a.put dx (.own p)).push p (.ins C dx []),_,.ref G.length::ds,hk,rfl,s2,⟨.ref p,vs,by rw [List.append_nil],rp,(q.mono x1).mono x2⟩,(Ge (out.mono (x1.trans x2) h)).imp ?_⟩;rintro v _ ⟨b,d,G1,rfl,x3,s3,q3,-,h3⟩;split at h3
 ·have:v=.non:=q3;exact ⟨this,h3 b _ (Ext.refl b) s3 (rp.mono x3)⟩
 ·exact h3.elim
theorem ZOa {g:Addr} {p:Pos} (hn:PySem.W.nsIn X.K mainGlobals c=some (some (.ref C))) (M:Mk X.K C g) (FF:FnOk X.prog X.w X.K X.mg X.base CX k g fd ps (lF X.K F)) (hr:Room (k + 1) X.A) (hg:Gl X c) (hm:X.mg c=some (.ref C)) (hb:Binds X.K fd ps [])
  (hx:Passes CX X E) (ha:QA X E (e::es) tr) (hdb:(c == ("__debug__":Str))=false:=by decide) (he:notStar e=true:=by rfl) (hpl:es.all notStar=true:=by rfl):QE X E (.Call (.Name c p) (e::es) [] pos) (ZEr c F tr):=
 (ZPt M FF hr hg hm hb .nil hx ha hdb (O1 e es X.env he) (Ot pos X.env es hpl)).mono λσ H Q h=>by obtain ⟨a,S,G,hk,rfl,s,r,h⟩:=h;refine ⟨a,S,G,hk,rfl,s,r,(Ny h).imp ?_⟩;rintro vs _ ⟨b,ds,G1,rfl,x,s1,q,-,h1⟩;exact ZMu (x.k.trans hk) hn s1 q h1
end
noncomputable def Qi (d:D) (ds:List D) (G:DH):R D:=match ds with
 | [.int k]=>match Ho d G with
  | some xs=>match Gj xs with
   | some ns=>if k∈ns/\ns.length<=1000000 then .ok (.int (ns.idxOf k)) G else .bad
   | none=>.bad
  | none=>.bad
 | _=>.bad
theorem ZJa:∀{ns:List Int} {vs:List V},Reps a (ns.map D.int) vs->vs=ns.map V.int
 | [],vs,h=>h
 | n::ns,vs,h=>by
  obtain ⟨v,r,e,h1,h2⟩:=h
  cases (show v=V.int n from h1)
  rw [e,ZJa h2]
  rfl
theorem Ru:∀{ns:List Int} {us:List Value},Vals (ns.map V.int) us->us.length=ns.length/\∀(j:Nat) (u:Value),us[j]? =some u->∃t,∃h:j < ns.length,u=.int ns[j] t
 | [],us,h=>by cases h;exact ⟨rfl,λj u e=>by simp at e⟩
 | n::ns,us,h=>by
  cases h with
  | cons r rr=>
   obtain ⟨h1,h2⟩:=Ru rr;obtain ⟨t,rfl⟩:=r;refine ⟨by simp [h1],λj u e=> ?_⟩;cases j with
   | zero=>simp at e;exact ⟨t,by simp,by simpa using e.symm⟩
   | succ j=>
    obtain ⟨t',hj,e'⟩:=h2 j u (by simpa using e);exact ⟨t',by simpa using hj,by simpa using e'⟩
section
variable {X:Cx} {E:XK}
theorem ZMp:MtM X "list.index" (lRm X.K E Qi):=by
 intro pins s σ H x xs v us Q I rx rxs h;obtain ⟨a,G,d,ds,hk,rfl,sm,rd,rds,q⟩:=h;unfold Qi at q;split at q
 ·rename_i k;split at q
  ·rename_i ys hy;split at q
   ·rename_i ns hns;split at q
    ·rename_i hk';obtain ⟨hmem,hlen⟩:=hk';obtain ⟨p,vs,rfl,hq,rv⟩:=V0 sm rd hy;rw [ZBC hns] at rv;rw [ZJa rv,hk] at hq;cases rx;obtain ⟨v1,rfl,rv1⟩:=reps1 rds
     cases (show v1=V.int k from rv1)
     obtain ⟨u,rfl,ru⟩:=rxs.one;obtain ⟨t,rfl⟩:=ru;obtain ⟨its,rits,⟨o,n,ho,hc,hdi,hd⟩,hz⟩:=I.list hq;obtain ⟨hl1,hl2⟩:=Ru rits;have hlt:ns.idxOf k < ns.length:=List.idxOf_lt_length_of_mem hmem;have hjs:ns.idxOf k < its.toArray.size:=by simpa [hl1] using hlt
     have hob:o={cls:=.type "list",dict:=o.dict,data:=.seq its.toArray n,slots:=o.slots}:=by
      obtain ⟨c1,c2,c3,c4⟩:=o;simp only at hc hd;subst hc;subst hd
      rfl
     rw [hob] at ho
     refine call_meets PySem.F.slot_list_index ⟨_,ho,rfl⟩ PySem.F.entry_list_index (PySem.F.args_list_index_2 _ _) (SeqAt.list_indexAt p its.toArray n o.dict o.slots (.int k t) (λy=>match y with | .int i _=>i == k | _=>false) (ns.idxOf k) hjs (by lia) ?_ ?_) ⟨ho,λy hy=> ?_,?_⟩
     ·have hg:its[ns.idxOf k]? =some its.toArray[ns.idxOf k]:=by simp [List.getElem?_eq_getElem (by simpa [hl1] using hlt:ns.idxOf k < its.length)]
      obtain ⟨t',h3,e3⟩:=hl2 _ _ hg;rw [e3];simp
     ·intro m hm hlt2;have hml:m < its.length:=by simpa using hm
      have hg:its[m]? =some its.toArray[m]:=by simp [List.getElem?_eq_getElem hml]
      obtain ⟨t',h3,e3⟩:=hl2 _ _ hg;rw [e3];have:=List.not_of_lt_findIdx (p:=λx=>x == k) (xs:=ns) hlt2;simpa using this
     ·have hy2:y∈its:=by simpa using hy
      obtain ⟨m,hm,e⟩:=List.getElem_of_mem hy2;obtain ⟨t',h3,e3⟩:=hl2 m y (by rw [List.getElem?_eq_getElem hm,e]);rw [e3];exact SeqAt.EqAt.int_int _ _ _ _
     ·exact ⟨.int (ns.idxOf k),a.H,I.tok _,⟨_,rfl⟩,q a _ (Ext.refl a) sm rfl⟩
    ·exact q.elim
   ·exact q.elim
  ·exact q.elim
 ·exact q.elim
noncomputable def tLR (ta:TA):TE:=λσ H Q=>ta σ H λvs H1=>∃j:Int,vs= [.int j]/\ -(2 ^ 62)<=j/\j<=1000000/\∀l,H1 l=none->Q (.ref l) (upd H1 l (.lst ((List.range j.toNat).map λ(i:Nat)=>V.int (i:Int))))
theorem ZPk {acc:Array Value} {n:Nat} (h:ItemsOf (λi v=>∃t,v=.int ((0:Int) + i * 1) t) acc n):Vals ((List.range n).map λ(i:Nat)=>V.int (i:Int)) acc.toList:=by
 obtain ⟨h1,h2⟩:=h;refine ZCz (by simp [h1]) λi v u hv hu=> ?_
 have hi:i < n:=by have:=(List.getElem?_eq_some_iff.mp hv).1;simpa using this
 rw [List.getElem?_map,List.getElem?_range hi] at hv;have ev:v=V.int (i:Int):=by simpa using hv.symm
 obtain ⟨t,e⟩:=h2 i u (by rw [<-Array.getElem?_toList];exact hu);subst ev;refine ⟨t,?_⟩;rw [e]
 congr 1
 lia
theorem ZQn {ta:TA} {p p' pos pos':Pos} (hc:X.calm=true) (hg:Gl X "list") (hm:X.mg "list"=none) (hg2:Gl X "range") (hm2:X.mg "range"=none) (ha:PA X [e] ta) (hs:starEach [e] X.env= [(false,eval e X.env)]:=by rfl)
  (hs2:starEach [.Call (.Name "range" p') [e] [] pos'] X.env= [(false,eval (.Call (.Name "range" p') [e] [] pos') X.env)]:=by rfl):PE X (.Call (.Name "list" p) [.Call (.Name "range" p') [e] [] pos'] [] pos) (tLR ta):=by
 intro pins s σ H Q I h;refine Call_ (Jg I hg hm ZHD (PyProof.Rows.callWith_type1 ?_ hs2 rfl));rw [hs2];refine Calls.spliced_cons (Call_ (Jg I hg2 hm2 PyProof.Rows.boot_range (PyProof.Rows.callWith_type1 (thn (ha pos' pins s σ H _ I h) λus s1 ⟨vs,H1,I1,r1,q1⟩=> ?_) hs rfl)));obtain ⟨j,rfl,b1,b2,q⟩:=q1;obtain ⟨u,rfl,ru⟩:=r1.one;obtain ⟨t,rfl⟩:=ru;refine call_range_1 (Calls.spliced_nil ?_)
 have hsz:Builtin.Range.rangeSize 0 j 1=(j.toNat:Int):=by rw [rangeSize_one];split <;> lia
 refine call_list_range (I.ok.hd hc) (IsRange.new ..) (small_one (by decide) (by decide) b1 (by lia)) hsz (by lia) λh' tk acc' c' hk hS' hacc=> ?_
 have I2:=I1.kept (t':=s1.toks + 1 + 1) (h':=s1.heap.push {cls:=.type "range",data:=.fields #[.int 0 s1.toks,.int j t,.int 1 (s1.toks + 1)]}) λb o e=>Heap.get?_push_of_some _ e
 refine ⟨.ref _,_,I2.laid (o:=.lst ((List.range j.toNat).map λ(i:Nat)=>V.int (i:Int))) (t':=tk) hk (Nat.le_refl _) ⟨?_,acc'.toList,c',ZPk hacc,by simpa using hS'⟩,rfl,q _ (I2.hok.fresh (Nat.le_refl _))⟩;rw [List.length_map,List.length_range,sizeLine_eq];lia
noncomputable def dLR (t:DA):DE:=λS G=>(t S G).bind λds G1=>match ds with
 | [.int j]=>if inR j/\j<=1000000 then .ok (.ref G1.length) (G1++ [.lst (Cg 0 j.toNat)]) else .bad
 | _=>.bad
theorem ZLV {ta:DA} {p p' pos pos':Pos} (hc:X.calm=true) (hg:Gl X "list") (hm:X.mg "list"=none) (hg2:Gl X "range") (hm2:X.mg "range"=none) (ha:QA X E [e] ta) (hs:starEach [e] X.env= [(false,eval e X.env)]:=by rfl)
  (hs2:starEach [.Call (.Name "range" p') [e] [] pos'] X.env= [(false,eval (.Call (.Name "range" p') [e] [] pos') X.env)]:=by rfl):QE X E (.Call (.Name "list" p) [.Call (.Name "range" p') [e] [] pos'] [] pos) (dLR ta):=
 (ZQn hc hg hm hg2 hm2 ha hs hs2).mono λσ H Q h=>by
  obtain ⟨a,S,G,hk,rfl,s,r,h⟩:=h;refine ⟨a,S,G,hk,rfl,s,r,(Ny h).imp ?_⟩;rintro vs _ ⟨b,ds,G1,rfl,x,s1,q,-,h1⟩;split at h1
  ·rename_i j;split at h1
   ·rename_i hj;obtain ⟨v,rfl,rv⟩:=reps1 q
    cases (show v=V.int j from rv)
    refine ⟨j,rfl,hj.1.1,hj.2,λl hl=>La s1 ?_ h1 l hl⟩;unfold Cg;generalize List.range j.toNat=L
    induction L with
    | nil=>exact rfl
    | cons k L ih=>exact ⟨_,_,rfl,(by show V.int (k:Int)=V.int (0 + (k:Int));rw [Int.zero_add]),ih⟩
   ·exact h1.elim
  ·exact h1.elim
noncomputable def Itd (lo:Int) (n:Nat):It:=⟨λi _=>i < n,λi H x H'=>H'=H/\x=.int (lo - i),λi _=>n<=i⟩
theorem ZMO {P:Program} {w:World} {K:PySem.W.Frag} {tg:Expr} (it:Addr) (lo:Int) (n:Nat):Turn P w K tg (Itd lo n) [it] it (λi h=>IsRangeIter h it (lo + (i:Nat) * (-1)) ((n:Int) - (i:Nat)) (-1)) where
 mem:=by simp
 obj:=λi h st b hb=>by
  have e:b=it:=by simpa using hb
  subst e;exact ⟨_,st,λv z=>by have z':Data.fields _=Data.cell v:=z;cases z'⟩
 keep:=λi h h' st k=>k it (by simp) _ st
 item:=by
  intro X hP hw hK hc i pins s σ H E I hf st hg;subst hP hw hK;obtain ⟨f0,f1,f2,f3,f4,f5⟩:=hf it (by simp);have W:=Walks.range (prog:=X.prog) (w:=X.w) (I.ok.hd hc) it lo (-1) n;refine W.item i s _ _ hg st λv h' tk hv st' kk=> ?_
  obtain ⟨t,rfl⟩:=hv;have I1:Inv X pins σ H {s with heap:=h',toks:=tk}:=I.turned (λb o hb e=>kk b o (by simpa using hb) e) f0 f1 f3 f4 f5;refine ⟨_,rfl,Oe (s:={s with heap:=h',toks:=tk}) (n:="range_iterator") st' rfl rfl (by decide) ⟨.int (lo - i),H,I1,⟨t,?_⟩,⟨rfl,rfl⟩,st',λb hb=>(hf b hb).1⟩⟩
  congr 1
  lia
 done:=by intro X hP hw hK hc i pins s σ H E I hf st hg;subst hP hw hK;obtain ⟨f0,f1,f2,f3,f4,f5⟩:=hf it (by simp);exact wpAny_pyNext_range_end (I.ok.hd hc) st (by have:n<=i:=hg;lia) λh' eb=>⟨rfl,I.turned (t':=s.toks) (λb o hb e=>eb b o hb e) f0 f1 f3 f4 f5⟩
 self:=λ_ _ _ _ _ st h=>wpAny_pyIter_rangeiter st h
theorem rangeSize_down (a b:Int):Builtin.Range.rangeSize a b (-1)=if b < a then a - b else 0:=by
 unfold Builtin.Range.rangeSize;rw [if_neg (by decide)];have e:(- (-1:Int))=1:=by decide
 rw [e,Int.ediv_one]
 split <;> lia
theorem small_down {a b:Int} (ha: -(2 ^ 62)<=a) (ha':a < 2 ^ 62) (hb: -(2 ^ 62)<=b) (hb':b < 2 ^ 62):Builtin.Range.small a b (-1)=true:=by
 unfold Builtin.Range.small;rw [rangeSize_down];simp only [Builtin.Range.rangeFitsLong,Bool.and_eq_true,Bool.or_eq_true,decide_eq_true_eq,beq_iff_eq,show¬((-1:Int) > 0) by decide,if_false]
 split <;> lia
noncomputable def iDn (ta:TA):TI:=λσ H R=>ta σ H λvs H1=>∃i j:Int,vs= [.int i,.int j,.int (-1)]/\(-(2 ^ 62)<=i/\i < 2 ^ 62/\ -(2 ^ 62)<=j/\j < 2 ^ 62)/\R (Itd i (i - j).toNat) H1
theorem ZNO {tg a b c:Expr} {ta:TA} {p pos:Pos} (hg:Gl X "range") (hm:X.mg "range"=none) (ha:PA X [a,b,c] ta) (hs:starEach [a,b,c] X.env=(false,eval a X.env)::starEach [b,c] X.env:=by rfl) (hs2:(backTo pos (starEach [b,c] X.env)).any (·.1)=false:=by rfl):
  PI X tg (.Call (.Name "range" p) [a,b,c] [] pos) (iDn ta):=by
 intro pins s σ H R I h;refine Call_ (Jg I hg hm PyProof.Rows.boot_range (PyProof.Rows.callWith_type1 (thn (ha pos pins s σ H _ I h) λus s1 ⟨vs,H1,I1,r1,q1⟩=> ?_) hs hs2));obtain ⟨i,j,e,⟨q1,q2,q3,q4⟩,q⟩:=q1;subst e;cases r1 with
 | cons r rr=>
  cases rr with
  | cons r' rr=>
   cases rr with
   | cons r'' rr=>
    cases rr;obtain ⟨t,rfl⟩:=r;obtain ⟨t',rfl⟩:=r';obtain ⟨t'',rfl⟩:=r'';refine call_range_3 (by decide) ?_ (.inl (PyProof.noPylong_small (by lia)));refine wpAny_pyIter_range (IsRange.new ..) (small_down q1 q2 q3 q4) ?_;have I2:Inv X pins σ H1 {s1 with heap:=s1.heap.push {cls:=.type "range",data:=.fields #[.int i t,.int j t',.int (-1) t'']},toks:=s1.toks}:=I1.kept λb o e=>Heap.get?_push_of_some _ e
    refine ⟨(s1.heap.push {cls:=.type "range",data:=.fields #[.int i t,.int j t',.int (-1) t'']}).objs.size,[(s1.heap.push {cls:=.type "range",data:=.fields #[.int i t,.int j t',.int (-1) t'']}).objs.size],_,_,H1,rfl,
     I2.kept (t':=s1.toks) λb o e=>Heap.get?_push_of_some _ e,ZMO _ i (i - j).toNat,?_,λb hb=> ?_,q⟩
    ·have e1:i + ((0:Nat):Int) * (-1)=i:=by simp
     have e2:(((i - j).toNat:Nat):Int) - ((0:Nat):Int)=Builtin.Range.rangeSize i j (-1):=by rw [rangeSize_down];split <;> lia
     show IsRangeIter _ _ (i + ((0:Nat):Int) * (-1)) ((((i - j).toNat:Nat):Int) - ((0:Nat):Int)) (-1);rw [e1,e2];exact Heap.get?_push_size _ rfl
    ·have e:b=(s1.heap.push {cls:=.type "range",data:=.fields #[.int i t,.int j t',.int (-1) t'']}).objs.size:=by simpa using hb
     subst e;exact I2.Ks (Nat.le_refl _) (I2.hok.fresh (Nat.le_refl _))
noncomputable def Iw (lo:Int) (n:Nat):List D:=(List.range n).map λ(k:Nat)=>D.int (lo - (k:Int))
noncomputable def rng3 (ds:List D) (G:DH):R ItD:=match ds with
 | [.int i,.int j,.int k]=>if inR i/\inR j/\k= -1 then .ok (.pure (Iw i (i - j).toNat)) G else .bad
 | _=>.bad
theorem ZPl (lo:Int) (n:Nat):RepI a (.pure (Iw lo n)) (Itd lo n):=by
 refine ⟨(List.range n).map λ(k:Nat)=>V.int (lo - (k:Int)),?_,λb x i=>⟨λv hv=> ?_,λhl=> ?_⟩⟩
 ·unfold Iw;generalize List.range n=l
  induction l with
  | nil=>exact rfl
  | cons k l ih=>exact ⟨_,_,rfl,rfl,ih⟩
 ·rw [List.getElem?_map] at hv;by_cases hi:i < n
  ·rw [List.getElem?_range hi] at hv;have hv':V.int (lo - (i:Int))=v:=by simpa using hv
   exact ⟨hi,λw H' y=>⟨y.2.trans hv',y.1⟩⟩
  ·rw [List.getElem?_eq_none (by simpa using hi)] at hv;cases hv
 ·show n<=i;simpa using hl
theorem ZHG {tg e' e'':Expr} {ta:DA} {p pos:Pos} (hg:Gl X "range") (hm:X.mg "range"=none) (ha:QA X E [e,e',e''] ta) (hs:starEach [e,e',e''] X.env=(false,eval e X.env)::starEach [e',e''] X.env:=by rfl) (hs2:(backTo pos (starEach [e',e''] X.env)).any (·.1)=false:=by rfl):
  QI X E tg (.Call (.Name "range" p) [e,e',e''] [] pos) (Dh rng3 ta):=
 (ZNO hg hm ha hs hs2).mono λσ H Q h=>by
  obtain ⟨a,S,G,hk,rfl,s,r,h⟩:=h;refine ⟨a,S,G,hk,rfl,s,r,(ZBw h).imp ?_⟩;rintro vs _ ⟨b,ds,G1,rfl,x,s1,q,-,h1⟩;unfold rng3 at h1;split at h1
  ·rename_i i j k;split at h1
   ·rename_i hj;obtain ⟨hi,hj,rfl⟩:=hj;obtain ⟨v,r,e1,q1,v2,r2,e2,q2,v3,r3,e3,q3,q4⟩:=q
    cases (show v=V.int i from q1)
    cases (show v2=V.int j from q2)
    cases (show v3=V.int (-1) from q3)
    cases (show r3= [] from q4)
    subst e3;subst e2;exact ⟨i,j,e1,⟨hi.1,hi.2,hj.1,hj.2⟩,h1 b _ (Ext.refl b) s1 (ZPl i (i - j).toNat)⟩
   ·exact h1.elim
  ·exact h1.elim
end
section
variable {prog:Program} {w:World} {A:Around} {E:Value->Shared->Prop} {s:Shared}
end
section
variable {X:Cx} {E:XK}
end
end DL
namespace DL
open PySem PySem.Spec L2
variable {d:D}
noncomputable def Jv (c f:Str) (d:D) (G:DH):R D:=match Ju c d G with
 | some fs=>match fs.lookup f with
  | some v=>.ok v G
  | none=>.bad
 | none=>.bad
noncomputable def Og (c f:Str) (o d:D) (S:DSt) (G:DH):SR:=match o with
 | .ref i=>match Ju c o G with
  | some fs=>if fs.length < 1000 then .nx S (G.set i (.ins c (Hc f d fs))) else .bad
  | none=>.bad
 | _=>.bad
noncomputable def Yy (c m:Str) (F:List D->DH->R D) (t:DA) (S:DSt) (o:D) (G:DH):R D:=match Ju c o G with
 | some fs=>match fs.lookup m with
  | none=>(t S G).bind λds G2=>F (o::ds) G2
  | some _=>.bad
 | none=>.bad
noncomputable def ZCl (F:List D->DH->R D) (c:Str) (ds:List D) (G1:DH):R D:=(F (.ref G1.length::ds) (G1++ [.ins c []])).bind λv G2=>match v with
 | .non=>.ok (.ref G1.length) G2
 | _=>.bad
section
variable {S:DSt} {G:DH} {c f m:Str} {t to tv:DE} {ta:DA} {F:List D->DH->R D} {i:Nat} {fs:List (Str×D)} {v d:D}
@[simp] theorem ev_fld:Et c t f S G=(t S G).bind λd G1=>Jv c f d G1:=id rfl
@[simp] theorem Mq:Gh c to tv f S G=(tv S G).toS λd G1=>(to S G1).toS λo G2=>Og c f o d S G2:=id rfl
@[simp] theorem ZUl:Im c m F to ta S G=(to S G).bind λo G1=>Yy c m F ta S o G1:=id rfl
@[simp] theorem ZVG:ZEr c F ta S G=(ta S G).bind λds G1=>ZCl F c ds G1:=id rfl
theorem ZEh (h:G[i]? =some (.ins c fs)):Ju c (.ref i) G=some fs:=by unfold Ju;simp only [h,if_true]
theorem O8 (h:G[i]? =some (.ins c fs)) (h2:fs.lookup f=some v):Jv c f (.ref i) G=.ok v G:=by unfold Jv;rw [ZEh h];simp only [h2]
theorem ZPa (h:G[i]? =some (.ins c fs)) (hl:fs.length < 1000):Og c f (.ref i) d S G=.nx S (G.set i (.ins c (Hc f d fs))):=by unfold Og;simp only [ZEh h,hl,if_true]
theorem ZK5 (h:G[i]? =some (.ins c fs)) (h2:fs.lookup m=none):Yy c m F ta S (.ref i) G=(ta S G).bind λds G2=>F (.ref i::ds) G2:=by unfold Yy;rw [ZEh h];simp only [h2]
@[simp] theorem ev_LR:dLR ta S G=(ta S G).bind λds G1=>match ds with
 | [.int j]=>if inR j/\j<=1000000 then .ok (.ref G1.length) (G1++ [.lst (Cg 0 j.toNat)]) else .bad
 | _=>.bad:=id rfl
@[simp] theorem ZIY {i j:Int} (hi:inR i) (hj:inR j):rng3 [.int i,.int j,.int (-1)] G=.ok (.pure (Iw i (i - j).toNat)) G:=by simp [rng3,hi,hj]
theorem ZJc {lo:Int}:Iw lo 0= []:=rfl
theorem ZFt {lo:Int} {n:Nat}:Iw lo (n + 1)=.int lo::Iw (lo - 1) n:=by
 unfold Iw;rw [List.range_succ_eq_map,List.map_cons,List.map_map]
 congr 1
 ·simp
 ·refine List.map_congr_left λk _=> ?_
  simp only [Function.comp]
  congr 1
  lia
theorem ZRp {ns:List Int} {k:Int} (h:Ho d G=some (ns.map D.int)) (hm:k∈ns) (hl:ns.length<=1000000):Qi d [.int k] G=.ok (.int (ns.idxOf k)) G:=by unfold Qi;simp only [h,ZEV,hm,hl,and_self,if_true]
theorem ZMa {G G':DH} (hl:G'.length=G.length) (hb:bel G.length d=true):tidy G (.ok d G')=.ok d G':=by
 unfold tidy;simp only [hb,if_true];split
 ·rename_i h;rw [List.take_of_length_le (by lia)] at h;rw [h]
 ·rfl
theorem ZOI {G G':DH} (h:G'.take G.length≠G):tidy G (.ok d G')=.ok d G':=by unfold tidy;simp only [h,if_false]
end
end DL
namespace DL
open PySem PySem.Spec L2
open PyProof.Rows hiding St
noncomputable def N6 (x:Str) (n:Int):Str:=if n < 1 then Str.empty else if (n == 1 || x.length == 0)=true then x else ⟨(List.replicate n.toNat x.cps).foldl (·++·) #[]⟩
theorem ZCY {a:Array Nat}:∀(n:Nat) (b:Array Nat),((List.replicate n a).foldl (·++·) b).toList=b.toList++(List.replicate n a.toList).flatten
 | 0,b=>by simp
 | n + 1,b=>by rw [List.replicate_succ,List.foldl_cons,ZCY n (b++a),List.replicate_succ,List.flatten_cons];simp
theorem ZPC {a:Array Nat} (n:Nat):((List.replicate n a).foldl (·++·) #[]).size=n * a.size:=by rw [<-Array.length_toList,ZCY];simp
theorem ZR3 {x:Str} {n:Int}:(N6 x n).cps.toList=(List.replicate n.toNat x.cps.toList).flatten:=by
 unfold N6;split
 ·rename_i h;have e:n.toNat=0:=by lia
  rw [e];rfl
 ·rename_i h;split
  ·rename_i hx;rw [Bool.or_eq_true,beq_iff_eq,beq_iff_eq] at hx;rcases hx with rfl | hx
   ·simp
   ·have e:x.cps.toList= []:=by have:x.cps.size=0:=hx;rw [<-Array.length_toList] at this;exact List.eq_nil_of_length_eq_zero this
    rw [e];simp
  ·show ((List.replicate n.toNat x.cps).foldl (·++·) #[]).toList=_
   rw [ZCY];simp
noncomputable def Bh:D->D->DH->R D
 | .int i,.int j,G=>if MulB i j then .ok (.int (i * j)) G else .bad
 | .str x,.int n,G=>if -1000<=n/\n<=1000/\x.length<=1000 then .ok (.str (N6 x n)) G else .bad
 | _,_,_=>.bad
section
variable {X:Cx} {E:XK}
theorem ZQg:OpR X (binaryOp .Mult) (λx y H Q=>∃i n,x=.str i/\y=.int n/\(-1000<=n/\n<=1000/\i.length<=1000)/\Q (.str (N6 i n)) H):=by
 intro pins s σ H x y v u Q I rx ry h;obtain ⟨i,n,rfl,rfl,⟨h1,h2,h3⟩,q⟩:=h;obtain ⟨t,rfl⟩:=rx;obtain ⟨t',rfl⟩:=ry;have hlen:∀m:Nat,m<=1000->i.length * m<=1000000:=λm hm=>Nat.le_trans (Nat.mul_le_mul h3 hm) (by decide)
 refine P.mul_str ?_ (λhn hx=> ?_) (λhn hx=> ?_) ?_
 ·rw [decide_eq_false (by lia),decide_eq_false (by lia)];rfl
 ·intro hgt;have hm:0 < n:=by lia
  have:(i.length:Int) * n<=2 ^ 63 - 1:=by have h4:(i.length:Int) * n<=1000 * 1000:=Int.mul_le_mul (by lia) h2 (by lia) (by lia);lia
  have h5:=(Int.le_ediv_iff_mul_le hm).mpr this;lia
 ·have:=hlen n.toNat (by lia);unfold Builtin.Str.tooLong;rw [sizeLine_eq];exact decide_eq_false (by lia)
 ·unfold N6 at q;split
  ·rename_i hn;rw [if_pos hn] at q;exact ⟨by decide,.str Str.empty,H,I.tok _,⟨_,rfl⟩,q⟩
  ·rename_i hn;rw [if_neg hn] at q;split
   ·rename_i hx;rw [if_pos hx] at q;exact ⟨.str i,H,I,⟨t,rfl⟩,q⟩
   ·rename_i hx;rw [if_neg hx] at q;refine ⟨?_,.str _,H,I.tok _,⟨_,rfl⟩,q⟩
    show ((List.replicate n.toNat i.cps).foldl (·++·) #[]).size<=sizeLine
    have h6:i.cps.size<=1000:=h3;have h7:=Nat.mul_le_mul (show n.toNat<=1000 by lia) h6;rw [ZPC,sizeLine_eq];lia
theorem Dq:OpR X (binaryOp .Mult) (lR2 X.K E Bh):=Gy (ZMn.or ZQg) λa G d e x y Q hk s rd re q=>by
 cases d <;> cases e <;> first
  | exact q.elim
  | (
    rename_i i j;unfold Bh at q;dsimp only at q;split at q
    ·first
     | exact .inl ⟨_,_,rd,re,by assumption,q a _ (Ext.refl a) s rfl⟩
     | exact .inr ⟨_,_,rd,re,by assumption,q a _ (Ext.refl a) s rfl⟩
    ·exact q.elim)
end
section
variable {i j:Int} {G:DH}
theorem Jq (h1: -(2 ^ 64) < i) (h2:i < 2 ^ 64):Bh (.int i) (.int j) G=.ok (.int (i * j)) G:=if_pos (.inl (.inl ⟨h1,h2⟩))
theorem Kw (h1: -(2 ^ 64) < j) (h2:j < 2 ^ 64):Bh (.int i) (.int j) G=.ok (.int (i * j)) G:=if_pos (.inl (.inr ⟨h1,h2⟩))
@[simp] theorem ZUr {n:Nat} (h:n < 18446744073709551616):Bh (.int (no_index (OfNat.ofNat n))) (.int j) G=.ok (.int (OfNat.ofNat n * j)) G:=
 Jq (by have:(0:Int)<=(OfNat.ofNat n:Int):=Int.natCast_nonneg n;lia) (by have:(OfNat.ofNat n:Int) < 18446744073709551616:=Int.ofNat_lt.mpr h;lia)
@[simp] theorem ZUF {n:Nat} (h:n < 18446744073709551616):Bh (.int i) (.int (no_index (OfNat.ofNat n))) G=.ok (.int (i * OfNat.ofNat n)) G:=
 Kw (by have:(0:Int)<=(OfNat.ofNat n:Int):=Int.natCast_nonneg n;lia) (by have:(OfNat.ofNat n:Int) < 18446744073709551616:=Int.ofNat_lt.mpr h;lia)
theorem ZK0 {x:Str} {n:Int} (h: -1000<=n/\n<=1000/\x.length<=1000):Bh (.str x) (.int n) G=.ok (.str (N6 x n)) G:=if_pos h
end
section
variable {X:Cx} {E:XK} {e st:Expr} {te:TE} {ts:TO} {p2 pos:Pos}
end
section
variable {S:DSt} {G:DH}
end
section
variable {X:Cx} {E:XK}
end
section
variable {S:DSt} {G:DH}
end
section
variable {X:Cx} {pins:List (Addr×Obj)} {σ:St} {H:Hp} {s:Shared} {N:List Str} {scope:Scope} {caps:List Nat} {x qual:Str} {f:Addr} {cd:Value} {A:Around}
end
section
variable {X:Cx} {pins:List (Addr×Obj)} {σ:St} {s:Shared} {scope:Scope} {a:Wd}
end
noncomputable def ltK (ks:List Int) (i j:Nat):Bool:=decide (ks.getD i 0 < ks.getD j 0)
section
variable {prog:Program} {w:World} {A:Around} {E:Value->Shared->Prop} {s:Shared}
end
section
variable {X:Cx} {pins:List (Addr×Obj)} {σ:St} {H:Hp} {s:Shared} {h':Heap} {m:Str->Option Value}
end
section
variable {X:Cx} {pins:List (Addr×Obj)} {σ:St} {N:List Str} {scope:Scope} {caps:List Nat} {x:Str} {f:Addr} {A:Around} {a:Wd} {S:DSt} {body:Expr} {te:DE} {params:Arguments} {pm ctv:Value} {c':Addr} {ob oc:Obj} {vs0:Array Value} {t0:Tok} {E:XK}
 {Dd kS:Addr} {e1:Nat} {m:Str->Option Value} {h₀:Heap} {Q:VK}
end
end DL
namespace DL
open PySem PySem.Spec L2
open PyProof.Rows hiding St
open PySem.W (KatKeys KatFin katRev KatBack)
section
variable {prog:Program} {w:World} {A:Around} {E:Value->Shared->Prop} {s:Shared} {h₀:Heap} {L a kS:Addr} {m:Str->Option Value} {P:PySem.Fin->Shared->Prop}
end
end DL
namespace DL
open PySem PySem.Spec L2
open PyProof.Rows hiding St
section
variable {X:Cx} {pins:List (Addr×Obj)} {σ:St} {N:List Str} {scope:Scope} {caps:List Nat} {x:Str} {f:Addr} {A:Around} {a:Wd} {S:DSt} {body:Expr} {te:DE} {params:Arguments} {pm ctv:Value} {c':Addr} {ob oc:Obj} {vs0:Array Value} {t0:Tok}
 {Dd kS:Addr} {e1:Nat} {m:Str->Option Value} {h₀:Heap} {Q:VK}
end
section
variable {X:Cx} {pins:List (Addr×Obj)} {σ:St} {N:List Str} {scope:Scope} {caps:List Nat} {x:Str} {f:Addr} {A:Around} {a:Wd} {S:DSt} {body:Expr} {te:DE} {params:Arguments} {pm ctv:Value} {c':Addr} {ob oc:Obj} {vs0:Array Value} {t0:Tok} {Q:VK}
end
section
variable {X:Cx} {N:List Str} {scope:Scope} {caps:List Nat} {x:Str} {body:Expr} {te:DE} {params:Arguments} {e:Expr} {tn:DA} {p p' pos pos' lp kp kp' cp:Pos} {C m:Str} {cj:Nat}
end
end DL
namespace DL
open PySem PySem.W L2
variable {C:Addr} {m:Str} {st:Stmt}
noncomputable def Mh:List Obj->Nat->Frag
 | [],_=> []
 | o::r,n=>match o.cls,o.data with
  | .none,.fields _=>Mh r (n + 1)
  | _,.freed=>Mh r (n + 1)
  | _,_=>(n,o)::Mh r (n + 1)
noncomputable def Ud (h:Heap):Frag:=Mh h.objs.toList 0
theorem ZG2 {a:Addr} {o:Obj}:∀{l:List Obj} {n:Nat},(Mh l n).lookup a=some o->n<=a/\l[a - n]? =some o/\∀x y z,o≠⟨x,y,.freed,z⟩
 | [],n,h=>by cases h
 | p::r,n,h=>by
  have next:(Mh r (n + 1)).lookup a=some o->n<=a/\(p::r)[a - n]? =some o/\∀x y z,o≠⟨x,y,.freed,z⟩:=λh=>by obtain ⟨h1,h2,h3⟩:=ZG2 h;obtain ⟨k,rfl⟩:=Nat.exists_eq_add_of_le h1;rw [Nat.add_sub_cancel_left] at h2;refine ⟨Nat.le_trans (Nat.le_succ n) h1,?_,h3⟩;rw [show n + 1 + k - n=k + 1 by rw [Nat.add_assoc,Nat.add_sub_cancel_left,Nat.add_comm],List.getElem?_cons_succ];exact h2
  unfold Mh at h;split at h
  ·exact next h
  ·exact next h
  ·rename_i hz hf;rw [List.lookup_cons] at h;split at h
   ·rename_i e;have e':a=n:=by simpa using e
    subst e';cases h;refine ⟨Nat.le_refl _,by simp,λx y z q=> ?_⟩;subst q;exact hz rfl
   ·exact next h
theorem ZLi (h:Heap):(Ud h).In h:=λa o e=>by
 obtain ⟨_,h2,h3⟩:=ZG2 e;have h4:h.objs[a]? =some o:=by simpa using h2
 unfold Heap.get?;rw [h4];split
 ·rename_i q;cases q;exact absurd rfl (h3 _ _ _)
 ·rfl
noncomputable def Ky (p:Program) (N:Nat) (w:World):Heap:=match openEnds treeTable p w N with
 | some s=>s.heap
 | none=>default
noncomputable def Stays (p:Program) (N:Nat) (w:World) (h:Heap):Prop:=∀b o,(Ky p N w).get? b=some o->h.get? b=some o
theorem Stays.in {p:Program} {N:Nat} {w:World} {h:Heap} (x:Stays p N w h):(Ud (Ky p N w)).In h:=λa o e=>x a o (ZLi _ a o e)
noncomputable def Xm (p:Program) (N:Nat):Hook:=
 ⟨Heap,λs=>s.heap,Ky p N,Stays p N,λw s e b o q=>by rw [show s.heap=Ky p N w from e];exact q,λw h h' x k b o q=>k b o (x b o q)⟩
section
variable {p q:Program} {loose:List Str} {Xt:Shared->Bool} {N:Nat} {β:Type} {see:Heap->β} {val:β}
theorem ZO4 (E:∀w,(openEnds treeTable p w N).map (λs=>(openSeen q loose (importedModules p.main.body) Xt true s,see s.heap))=some (openGood q loose,val)):
  LeftO p q loose Xt (Xm p N).obs (Xm p N).val N:=λw=>by
 obtain ⟨s,h1,h2⟩:=Option.map_eq_some_iff.mp (E w);show Option.map _ _=some (openGood q loose,Ky p N w);unfold Ky;rw [h1];show some (openSeen q loose (importedModules p.main.body) Xt true s,s.heap)=_;rw [(Prod.mk.inj h2).1]
theorem ZR9 (E:∀w,(openEnds treeTable p w N).map (λs=>(openSeen q loose (importedModules p.main.body) Xt true s,see s.heap))=some (openGood q loose,val)) (w:World):see (Ky p N w)=val:=by obtain ⟨s,h1,h2⟩:=Option.map_eq_some_iff.mp (E w);unfold Ky;rw [h1];exact (Prod.mk.inj h2).2
end
noncomputable def dOf (s:Stmt):DefRec:=match s with
 | Stmt.FunctionDef n a b _ _ _ s _ _ p=>⟨n,a,b,s,p⟩
 | _=>⟨Str.empty,⟨[],[],none,[],[],none,[]⟩,[],{kind:=.module,names:= [],isGenerator:=false,isCoroutine:=false,more:= []},⟨0,0,0,0⟩⟩
noncomputable abbrev XtOf (l:OpenLaw) (q:Program) (s:Shared):Bool:=xlAt q [] s && recOk l.row.toRowW.records s
theorem holds_top {l:OpenLaw} {q:Program} {loose:List Str} {N:Nat} {β:Type} {see:Heap->β} {val:β} {d:DefRec} (well:l.wellSaid=true)
  (E:∀w,(openEnds treeTable l.prog w N).map (λs=>(openSeen q loose (importedModules l.prog.main.body) (XtOf l q) true s,see s.heap))=some (openGood q loose,val))
  (hdef:defOf q l.row.name=some (d,[])) (hp:l.row.prog.theDef l.row.name=some (d.params,d.body,d.scope)) (hk:kwWritten? d.params.kwonlyargs d.params.kw_defaults=some []) (hwr:(!l.row.writes || l.row.records.isEmpty)=true)
  (ok:(chainsOk q && opensWell l.row.prog && (frees l.row.toRowW && l.row.within.isEmpty))=true) (hb:l.row.prog.bare) (hw:l.row.toRowW.promised)
  (call:WalkO q loose (XL q []) (Stays l.prog N) l.row.toRowW d [] λf vs=>PySem.call f vs):l.Holds:=
 holds_law well λsaid=>holds_open (r:=l.row) (q:=q) (loose:=loose) (Xt:=XtOf l q) (XP:=XL q []) (YP:=Stays l.prog N) (N:=N) (ZO4 E) (Xm l.prog N).of (Xm l.prog N).keeps
  (λs e=>xl_of s (Bool.and_eq_true_iff.mp e).1) XL.keeps hdef hp hk (λs e=>recFacts_of (Bool.and_eq_true_iff.mp e).2) hwr said ok hb hw call
noncomputable def Dp (K:Frag) (n:Str):Addr:=match nsIn K mainGlobals n with
 | some (some (.ref f))=>f
 | _=>0
noncomputable def gOk (K:Frag) (n:Str):Bool:=match nsIn K mainGlobals n with
 | some (some (.ref _))=>true
 | _=>false
theorem ZGb {K:Frag} {n:Str} (h:gOk K n=true):nsIn K mainGlobals n=some (some (.ref (Dp K n))):=by
 unfold gOk at h;unfold Dp;split at h
 ·rename_i e;rw [e]
 ·cases h
noncomputable def M7 (K:Frag) (C:Addr) (m:Str):Addr:=match findIn K (.ref C) m with
 | some (some (.ref f))=>f
 | _=>0
noncomputable def mOk (K:Frag) (C:Addr) (m:Str):Bool:=match findIn K (.ref C) m with
 | some (some (.ref f))=>isFn K (.ref f)
 | _=>false
theorem ZGg {K:Frag} (h:mOk K C m=true):findIn K (.ref C) m=some (some (.ref (M7 K C m)))/\isFn K (.ref (M7 K C m))=true:=by
 unfold mOk at h;unfold M7;split at h
 ·rename_i e;rw [e];exact ⟨rfl,h⟩
 ·cases h
noncomputable def noF (K:Frag) (C:Addr) (m:Str):Bool:=match findIn K (.ref C) m with
 | some none=>true
 | _=>false
theorem ZOc {K:Frag} (h:noF K C m=true):findIn K (.ref C) m=some none:=by
 unfold noF at h;split at h
 ·assumption
 ·cases h
noncomputable def zOk (K:Frag) (n:Str):Bool:=match nsIn K mainGlobals n with
 | some none=>true
 | _=>false
theorem ZQw {K:Frag} {n:Str} (h:zOk K n=true):nsIn K mainGlobals n=some none:=by
 unfold zOk at h;split at h
 ·assumption
 ·cases h
noncomputable def ZCO (K:Frag) (C:Addr):Bool:=match findIn K (.ref C) "__setattr__" with
 | some (some (.builtin s))=>s == "object.__setattr__"
 | _=>false
theorem ZQU {K:Frag} (h:ZCO K C=true):findIn K (.ref C) "__setattr__"=some (some (.builtin "object.__setattr__")):=by
 unfold ZCO at h;split at h
 ·rename_i e;rw [e,beq_iff_eq.mp h]
 ·cases h
noncomputable def iOk (K:Frag) (n:Str) (v:Int):Bool:=match nsIn K mainGlobals n with
 | some (some (.int u _))=>decide (u=v)
 | _=>false
noncomputable def sOk (K:Frag) (n:Str) (v:Str):Bool:=match nsIn K mainGlobals n with
 | some (some (.str u _))=>decide (u=v)
 | _=>false
noncomputable def Qo (K:Frag) (n:Str):Tok:=match nsIn K mainGlobals n with
 | some (some (.int _ t))=>t
 | some (some (.str _ t))=>t
 | _=>0
theorem ZOG {K:Frag} {n:Str} {v:Int} (h:iOk K n v=true):nsIn K mainGlobals n=some (some (.int v (Qo K n))):=by
 unfold iOk at h;unfold Qo;split at h
 ·rename_i e;rw [e,of_decide_eq_true h]
 ·cases h
theorem ZOs {K:Frag} {n:Str} {v:Str} (h:sOk K n v=true):nsIn K mainGlobals n=some (some (.str v (Qo K n))):=by
 unfold sOk at h;unfold Qo;split at h
 ·rename_i e;rw [e,of_decide_eq_true h]
 ·cases h
noncomputable def Oq (K:Frag) (f:Addr):Obj:=match K.lookup f with
 | some o=>o
 | none=>⟨.none,none,.plain,#[]⟩
noncomputable def Il (K:Frag) (f:Addr):FuncData:=match (Oq K f).data with
 | .func fd=>fd
 | _=>default
noncomputable def ZLN:Value->Bool
 | .none=>true
 | _=>false
noncomputable def ZOm:FuncBody->Option (List Stmt)
 | .stmts b=>some b
 | _=>none
noncomputable def ZBn (K:Frag) (x q:Str) (f:Addr):Bool:=match K.lookup f with
 | some ⟨_,_,.func fd,_⟩=>decide (fd.name=x) && decide (fd.qualname=q) && (fd.globals == mainGlobals && fd.builtins == builtinsNs && fd.closure.isEmpty && ZLN fd.defaults) && (codeIn K fd.code q && keepIn K (.ref f))
 | _=>false
noncomputable abbrev DefTxt:=Arguments×Option (List Stmt)×Scope
noncomputable def Yp (K:Frag) (f:Addr):DefTxt:=((Il K f).params,ZOm (Il K f).body,(Il K f).scope)
noncomputable def ZAF (st:Stmt):DefTxt:=(Mw st,some (Jy st),Av st)
noncomputable abbrev FnSaid (K:Frag) (x q:Str) (st:Stmt) (f:Addr):Prop:=
 K.lookup f=some ⟨(Oq K f).cls,(Oq K f).dict,.func (fnOf x q (Mw st) (Jy st) (Av st) .none (Il K f).kwdefaults (Il K f).doc (Il K f).pyModule (Il K f).annotations (Il K f).code (Il K f).closureTuple),(Oq K f).slots⟩/\
  codeIn K (Il K f).code q=true/\keepIn K (.ref f)=true
theorem ZHR {K:Frag} {x q:Str} {f:Addr} (h:ZBn K x q f=true) (t:Yp K f=ZAF st):FnSaid K x q st f:=by
 unfold ZBn at h;split at h
 ·rename_i oc od fd sl e;have eo:Oq K f=⟨oc,od,.func fd,sl⟩:=by unfold Oq;rw [e]
  have ef:Il K f=fd:=by unfold Il;rw [eo]
  unfold Yp ZAF at t;rw [ef] at t;obtain ⟨t1,t2⟩:=Prod.mk.inj t;obtain ⟨t2,t3⟩:=Prod.mk.inj t2;simp only [Bool.and_eq_true,decide_eq_true_eq,beq_iff_eq,List.isEmpty_iff] at h;obtain ⟨⟨⟨h1,h2⟩,⟨⟨h3,h4⟩,h5⟩,h6⟩,h7,h8⟩:=h;unfold FnSaid;rw [ef,eo,e];refine ⟨?_,h7,h8⟩;obtain ⟨nm,qn,ps,bd,sc,gl,cl,df,kd,dc,pm,an,cd,ct,bl⟩:=fd;dsimp only at t1 t2 t3 h1 h2 h3 h4 h5 h6;subst h1 h2 h3 h4 h5 t1 t3;have h6':df=.none:=by cases df <;> first | rfl | cases h6
  subst h6';have h9:bd=.stmts (Jy st):=by
   cases bd <;> first | (cases t2) | skip
   exact congrArg _ (Option.some.inj t2)
  subst h9
  rfl
 ·cases h
noncomputable def strsOf:List Value->Option (List Str)
 | []=>some []
 | .str s _::r=>(strsOf r).map (s::·)
 | _::_=>none
theorem ZHr:∀{l:List Value} {ss:List Str},strsOf l=some ss->Vals (ss.map V.str) l
 | [],ss,h=>by cases h;exact .nil
 | v::r,ss,h=>by
  unfold strsOf at h;split at h
  ·rename_i q;cases q
  ·rename_i s t r' q;cases q;obtain ⟨ss',h1,rfl⟩:=Option.map_eq_some_iff.mp h;exact .cons ⟨_,rfl⟩ (ZHr h1)
  ·cases h
noncomputable def ZEe (K:Frag) (n:Str) (vs:List Str):Bool:=match nsIn K mainGlobals n with
 | some (some (.ref p))=>(match K.lookup p with
   | some ⟨.type t,_,.seq its _,_⟩=>t == "tuple" && decide (strsOf its.toList=some vs) && Nat.ble its.toList.length 1000
   | _=>false)
 | _=>false
noncomputable abbrev GtSaid (K:Frag) (n:Str) (vs:List Str):Prop:=∃(p:Addr) (od:Option Addr) (sl:Array (Option Value)) (k:Nat) (its:List Value),nsIn K mainGlobals n=some (some (.ref p))/\K.lookup p=some ⟨.type "tuple",od,.seq its.toArray k,sl⟩/\its.length<=1000/\Vals (vs.map V.str) its
theorem ZOY {K:Frag} {n:Str} {vs:List Str} (h:ZEe K n vs=true):GtSaid K n vs:=by
 unfold ZEe at h;split at h
 ·rename_i p e;split at h
  ·rename_i t od its k sl e2;simp only [Bool.and_eq_true,beq_iff_eq,decide_eq_true_eq] at h;obtain ⟨⟨rfl,h2⟩,h3⟩:=h;exact ⟨p,od,sl,k,its.toList,e,by rw [e2],Nat.le_of_ble_eq_true h3,ZHr h2⟩
  ·cases h
 ·cases h
inductive Ask where
 | fn (n:Str) (st:Stmt)
 | mt (c m q:Str) (st:Stmt)
 | cl (c:Str)
 | no (c x:Str)
 | z (n:Str)
 | gi (n:Str) (v:Int)
 | gs (n v:Str)
 | gt (n:Str) (vs:List Str)
noncomputable def Ask.chk (K:Frag):Ask->Bool
 | .fn n _=>gOk K n && ZBn K n n (Dp K n)
 | .mt c m q _=>mOk K (Dp K c) m && ZBn K m q (M7 K (Dp K c) m)
 | .cl c=>gOk K c && (plainGet K (Dp K c) Str.empty && hasDictIn K (Dp K c) && plainOver K (Dp K c)) && (ZCO K (Dp K c) && makesIn K (Dp K c) && keepIn K (.ref (Dp K c)))
 | .no c x=>noF K (Dp K c) x
 | .z n=>zOk K n
 | .gi n v=>iOk K n v
 | .gs n v=>sOk K n v
 | .gt n vs=>ZEe K n vs
noncomputable def Ask.txt (K:Frag):Ask->Option DefTxt
 | .fn n _=>some (Yp K (Dp K n))
 | .mt c m _ _=>some (Yp K (M7 K (Dp K c) m))
 | _=>none
noncomputable def Ask.want:Ask->Option DefTxt
 | .fn _ st=>some (ZAF st)
 | .mt _ _ _ st=>some (ZAF st)
 | _=>none
noncomputable def Ask.Said (K:Frag):Ask->Prop
 | .fn n st=>nsIn K mainGlobals n=some (some (.ref (Dp K n)))/\FnSaid K n n st (Dp K n)
 | .mt c m q st=>findIn K (.ref (Dp K c)) m=some (some (.ref (M7 K (Dp K c) m)))/\isFn K (.ref (M7 K (Dp K c) m))=true/\FnSaid K m q st (M7 K (Dp K c) m)
 | .cl c=>nsIn K mainGlobals c=some (some (.ref (Dp K c)))/\plainGet K (Dp K c) Str.empty=true/\hasDictIn K (Dp K c)=true/\plainOver K (Dp K c)=true/\
   findIn K (.ref (Dp K c)) "__setattr__"=some (some (.builtin "object.__setattr__"))/\makesIn K (Dp K c)=true/\keepIn K (.ref (Dp K c))=true
 | .no c x=>findIn K (.ref (Dp K c)) x=some none
 | .z n=>nsIn K mainGlobals n=some none
 | .gi n v=>nsIn K mainGlobals n=some (some (.int v (Qo K n)))
 | .gs n v=>nsIn K mainGlobals n=some (some (.str v (Qo K n)))
 | .gt n vs=>GtSaid K n vs
theorem Ask.said {K:Frag}:∀{a:Ask},a.chk K=true->a.txt K=a.want->a.Said K
 | .fn n st,h,t=>by obtain ⟨h1,h2⟩:=Bool.and_eq_true_iff.mp h;exact ⟨ZGb h1,ZHR h2 (Option.some.inj t)⟩
 | .mt c m q st,h,t=>by obtain ⟨h1,h2⟩:=Bool.and_eq_true_iff.mp h;exact ⟨(ZGg h1).1,(ZGg h1).2,ZHR h2 (Option.some.inj t)⟩
 | .cl c,h,_=>by simp only [Ask.chk,Bool.and_eq_true] at h;obtain ⟨⟨h1,⟨h2,h3⟩,h4⟩,⟨h5,h6⟩,h7⟩:=h;exact ⟨ZGb h1,h2,h3,h4,ZQU h5,h6,h7⟩
 | .no c x,h,_=>ZOc h
 | .z n,h,_=>ZQw h
 | .gi n v,h,_=>ZOG h
 | .gs n v,h,_=>ZOs h
 | .gt n vs,h,_=>ZOY h
noncomputable def AllSaid (K:Frag):List Ask->Prop
 | []=>True
 | a::r=>a.Said K/\AllSaid K r
theorem ZIx {K:Frag}:∀{l:List Ask},(l.all (Ask.chk K),l.map (Ask.txt K))=(true,l.map Ask.want)->AllSaid K l
 | [],_=>trivial
 | a::r,h=>by obtain ⟨h1,h2⟩:=Prod.mk.inj h;rw [List.all_cons] at h1;obtain ⟨h3,h4⟩:=Bool.and_eq_true_iff.mp h1;rw [List.map_cons,List.map_cons] at h2;obtain ⟨h5,h6⟩:=List.cons.inj h2;exact ⟨Ask.said h3 h5,ZIx (by rw [h4,h6])⟩
noncomputable def ZCm (l:List Ask) (h:Heap):Bool×List (Option DefTxt):=(l.all (Ask.chk (Ud h)),l.map (Ask.txt (Ud h)))
noncomputable abbrev ZFG (l:List Ask):Bool×List (Option DefTxt):=(true,l.map Ask.want)
noncomputable def FX (K:Frag) (mg:Str->Option Value) (n:Str) (st:Stmt):Prop:=∃f d,Fun K n n st f d/\mg n=some (.ref f)/\keepIn K (.ref f)=true
theorem Cp {K:Frag} {h:Heap} {mg:Str->Option Value} {n:Str} (X:K.In h) (G:h.Ns mainGlobals mg) (s:Ask.Said K (.fn n st)):FX K mg n st:=
 ⟨_,_,ZHF (st:=st) s.2.1 s.2.2.1 s.2.2.2,mg_of X G s.1,s.2.2.2⟩
theorem Oa {K:Frag} {c q:Str} (s:Ask.Said K (.mt c m q st)):∃f d,Fun K m q st f d/\findIn K (.ref (Dp K c)) m=some (some (.ref f))/\isFn K (.ref f)=true/\keepIn K (.ref f)=true:=
 ⟨_,_,ZHF (st:=st) s.2.2.1 s.2.2.2.1 s.2.2.2.2,s.1,s.2.1,s.2.2.2.2⟩
theorem ZKK {K:Frag} {x q a:Str} {f:Addr} {fd:FuncData} {s:Shared} {v:Value} (F:Fun K x q st f fd)
  (h:∀(kV doc pm:Value) (an:Option Addr) (cdv ct:Value) (u:Value),bindArgs (fnOf x q (Mw st) (Jy st) (Av st) .none kV doc pm an cdv ct) ⟨[u],[]⟩=pure [(a,u)]):BindsTo s fd ⟨[v],[]⟩ [(a,v)]:=by
 obtain ⟨oc,od,kV,doc,pm,an,cdv,ct,osl,rfl,lk,hcd⟩:=F.ex;exact .of_eq (h kV doc pm an cdv ct v)
noncomputable def W3 (p:Program) (w:World) (n₀:Nat) (ann:Option Value):Nat->SharedT->Thread->Option SharedT
 | 0,_,_=>none
 | n + 1,s,t=>match through t with
  | true=>some s
  | false=>match PySem.W.Fast.tw6613529449190102663 n₀ ann t with
   | false=>none
   | true=>match PySem.W.Fast.tw10156331382660048174 (PySem.W.Fast.tw11892475500146522536 PySem.W.Fast.tw14364793385576792824) p w s t with
    | some (s',t')=>W3 p w n₀ ann n s' t'
    | none=>none
theorem ZFl {p:Program} {w:World} {n₀:Nat} {ann:Option Value}:∀{n:Nat} {s s':SharedT} {t:Thread},W3 p w n₀ ann n s t=some s'->topRun treeTable p w n₀ ann n s.abs t=some s'.abs
 | 0,_,_,_,h=>by cases h
 | n + 1,s,s',t,h=>by
  unfold W3 at h;unfold topRun;rw [<-PySem.W.Fast.te6613529449190102663,<-PySem.W.Fast.te10156331382660048174,<-PySem.W.Fast.te11892475500146522536,<-PySem.W.Fast.te14364793385576792824] at h;cases ht:through t with
  | true=>
   rw [ht] at h;cases h
   rfl
  | false=>
   rw [ht] at h;dsimp only at h ⊢;cases ho:stepOk n₀ ann t with
   | false=>rw [ho] at h;cases h
   | true=>
    rw [ho] at h;dsimp only at h ⊢;split at h
    ·rename_i s2 t2 e;rw [stepT_spec e];exact ZFl h
    ·cases h
noncomputable def ZIF:List Obj->Nat->BT->BT
 | [],_,t=>t
 | o::r,n,t=>ZIF r (n + 1) (t.ins n o)
noncomputable def ZHP (w:World) (os:OsState):SharedT:=⟨ZIF (boot_heap w.params).objs.toList 0 .nil,(boot_heap w.params).objs.size,(boot_heap w.params).life,Array.mk [],boot_drawn,boot_toks,os⟩
theorem boot_abs:∀w os,(ZHP w os).abs=⟨boot_heap w.params,Array.mk [],boot_drawn,boot_toks,os⟩:=λw os=>by kernel_rfl
theorem ZKt:∀w:World,((boot_heap w.params).isNs mainGlobals && (Array.mk []:Array GenState).size == 0)=true:=λw=>by kernel_rfl
noncomputable def ZE1 (p:Program) (w:World) (os:OsState):Option SharedT:=W3 p w (boot_heap w.params).objs.size (PySem.W.Fast.tw8920871248978507458 (boot_heap w.params) mainGlobals "__annotations__") 100000 (ZHP w os) (topStub p)
noncomputable def ZCg (p:Program) (w:World) (s:Shared):Bool:=staticsOk (PySem.W.Fast.tw5923862056798008813 p.main.body) (boot_heap w.params) s.heap && namesBound p s.heap && gensDone s && laidKept (boot_heap w.params) s.heap
theorem ZSH {p q:Program} {loose:List Str} {Xt:Shared->Bool} {β:Type} {see:Heap->β} {val:β} (e:opening p=plainProg p.main.scope.names) (f:∀s,fenceModules? p s=some s)
  (R:∀w os,(ZE1 p w os).map (λs=>(ZCg p w s.abs,PySem.W.Fast.tw4187177175401517315 q loose (PySem.W.Fast.tw5923862056798008813 p.main.body) Xt true s.abs,see s.abs.heap))=some (true,openGood q loose,val)):
  ∀w,(openEnds treeTable p w 100000).map (λs=>(openSeen q loose (importedModules p.main.body) Xt true s,see s.heap))=some (openGood q loose,val):=λw=>by
 obtain ⟨⟨h,gs,d,k,os⟩,h0,e0⟩:=Option.map_eq_some_iff.mp (boot_open (N:=100000) e rfl f w);obtain ⟨rfl,rfl,rfl,rfl⟩:h=boot_heap w.params/\gs=Array.mk []/\d=boot_drawn/\k=boot_toks:=by simpa using e0
 obtain ⟨s,h1,h2⟩:=Option.map_eq_some_iff.mp (R w os);obtain ⟨h3,h4⟩:=Prod.mk.inj h2;obtain ⟨h4,h5⟩:=Prod.mk.inj h4;unfold ZE1 at h1;have r:=ZFl h1;rw [boot_abs,<-PySem.W.Fast.te8920871248978507458] at r;rw [<-PySem.W.Fast.te4187177175401517315,<-PySem.W.Fast.te5923862056798008813] at h4;unfold ZCg at h3;rw [<-PySem.W.Fast.te5923862056798008813] at h3;have t:topFrom treeTable p w 100000 ⟨boot_heap w.params,Array.mk [],boot_drawn,boot_toks,os⟩=some s.abs:=by
  unfold topFrom;dsimp only;rw [ZKt,r]
  show (match staticsOk (importedModules p.main.body) (boot_heap w.params) s.abs.heap && namesBound p s.abs.heap && gensDone s.abs && laidKept (boot_heap w.params) s.abs.heap with | true=>_ | false=>_)=_
  rw [h3]
 unfold openEnds;rw [h0];show (topFrom treeTable p w 100000 _).map _=_;rw [t];exact congrArg some (Prod.ext h4 h5)
theorem ZOQ {l:OpenLaw} (h:PySem.W.Fast.tw9446332074065402090 l=true):l.wellSaid=true:=by rw [PySem.W.Fast.te9446332074065402090];exact h
end DL
namespace Law
open PySem L2 DL
noncomputable def top (i:Nat):Stmt:=PySem.Challenge.pw_sluiceway_k34_towns_take_by_rank.main.body.getD i (.Pass ⟨0,0,0,0⟩)
noncomputable def fuel:Nat:=100000
noncomputable def inC (s:Stmt) (j:Nat):Stmt:=match s with
 | .ClassDef _ _ _ body _ _ _ _ _ _ _=>body.getD j (.Pass ⟨0,0,0,0⟩)
 | _=>.Pass ⟨0,0,0,0⟩
noncomputable abbrev ZCo:Stmt:=top 45
noncomputable abbrev ZPP:List Str:= ["_law_cell","_law_unit_here"]
theorem ZK9:FnScope ZPP ["_law_cell","_law_unit_here"] (Av ZCo):=⟨rfl,rfl,rfl,by decide +kernel,rfl,by decide +kernel,by decide +kernel⟩
noncomputable abbrev ZD7:Stmt:=top 41
noncomputable abbrev ZQl:List Str:= ["_law_number_here","_law_k","_law_digit"]
theorem Ri:FnScope ZQl ["_law_number_here","_law_k"] (Av ZD7):=⟨rfl,rfl,rfl,by decide +kernel,rfl,by decide +kernel,by decide +kernel⟩
noncomputable abbrev ZDD:Stmt:=top 40
noncomputable abbrev ZRc:List Str:= ["_law_script"]
theorem ZQP:FnScope ZRc ["_law_script"] (Av ZDD):=⟨rfl,rfl,rfl,by decide +kernel,rfl,by decide +kernel,by decide +kernel⟩
noncomputable abbrev ZFB:Stmt:=top 42
noncomputable abbrev ZRP:List Str:= ["_law_script","_law_k","_law_number_here"]
theorem Tj:FnScope ZRP ["_law_script","_law_k"] (Av ZFB):=⟨rfl,rfl,rfl,by decide +kernel,rfl,by decide +kernel,by decide +kernel⟩
noncomputable abbrev ZFE:Stmt:=top 51
noncomputable abbrev ZNP:List Str:= ["_law_script"]
theorem ZME:FnScope ZNP ["_law_script"] (Av ZFE):=⟨rfl,rfl,rfl,by decide +kernel,rfl,by decide +kernel,by decide +kernel⟩
noncomputable abbrev ZCe:Stmt:=top 44
noncomputable abbrev ZLx:List Str:= ["_law_script"]
theorem ZOi:FnScope ZLx ["_law_script"] (Av ZCe):=⟨rfl,rfl,rfl,by decide +kernel,rfl,by decide +kernel,by decide +kernel⟩
noncomputable abbrev Qd:Stmt:=top 54
noncomputable abbrev Wl:List Str:= ["_law_script","_law_house_here","_law_turns","_law_many","_law_b","_law_floods_here","_law_at","_law_cells","_law_flood"]
theorem Li:FnScope Wl ["_law_script","_law_house_here","_law_turns"] (Av Qd):=⟨rfl,rfl,rfl,by decide +kernel,rfl,by decide +kernel,by decide +kernel⟩
noncomputable abbrev ZDN:Stmt:=top 59
noncomputable abbrev ZQu:List Str:= ["_law_house_here","_law_k","_law_j"]
theorem ZFq:FnScope ZQu ["_law_house_here","_law_k"] (Av ZDN):=⟨rfl,rfl,rfl,by decide +kernel,rfl,by decide +kernel,by decide +kernel⟩
noncomputable abbrev ZCZ:Stmt:=top 60
noncomputable abbrev ZSO:List Str:= ["_law_house_here","_law_k","_law_down_here"]
theorem ZHs:FnScope ZSO ["_law_house_here","_law_k"] (Av ZCZ):=⟨rfl,rfl,rfl,by decide +kernel,rfl,by decide +kernel,by decide +kernel⟩
noncomputable abbrev ZE8:Stmt:=top 61
noncomputable abbrev ZRM:List Str:= ["_law_house_here","_law_at","_law_some","_law_k"]
theorem ZEH:FnScope ZRM ["_law_house_here","_law_at"] (Av ZE8):=⟨rfl,rfl,rfl,by decide +kernel,rfl,by decide +kernel,by decide +kernel⟩
noncomputable abbrev ZFO:Stmt:=top 63
noncomputable abbrev ZRW:List Str:= ["_law_house_here","_law_k","_law_at","_law_one","_law_other"]
theorem ZCS:FnScope ZRW ["_law_house_here","_law_k","_law_at"] (Av ZFO):=⟨rfl,rfl,rfl,by decide +kernel,rfl,by decide +kernel,by decide +kernel⟩
noncomputable abbrev ZD9:Stmt:=top 64
noncomputable abbrev ZLy:List Str:= ["_law_house_here","_law_page_here","_law_at","_law_place","_law_free_here","_law_k"]
theorem Om:FnScope ZLy ["_law_house_here","_law_page_here","_law_at","_law_place"] (Av ZD9):=⟨rfl,rfl,rfl,by decide +kernel,rfl,by decide +kernel,by decide +kernel⟩
noncomputable abbrev ZEv:Stmt:=top 49
noncomputable abbrev ZPY:List Str:= ["_law_steps_here","_law_total","_law_low","_law_many","_law_way"]
theorem Qp:FnScope ZPY ["_law_steps_here"] (Av ZEv):=⟨rfl,rfl,rfl,by decide +kernel,rfl,by decide +kernel,by decide +kernel⟩
noncomputable abbrev ZFa:Stmt:=top 47
noncomputable abbrev ZSF:List Str:= ["_law_cells","_law_unit_here","_law_pumps","_law_steps_here","_law_low","_law_k","_law_many","_law_way"]
theorem Kr:FnScope ZSF ["_law_cells","_law_unit_here","_law_pumps"] (Av ZFa):=⟨rfl,rfl,rfl,by decide +kernel,rfl,by decide +kernel,by decide +kernel⟩
noncomputable abbrev ZEO:Stmt:=top 46
noncomputable abbrev ZRT:List Str:= ["_law_script","_law_cell"]
theorem ZIL:FnScope ZRT ["_law_script"] (Av ZEO):=⟨rfl,rfl,rfl,by decide +kernel,rfl,by decide +kernel,by decide +kernel⟩
noncomputable abbrev Rr:Stmt:=top 48
noncomputable abbrev ZCw:List Str:= ["_law_script","_law_b","_law_unit_here","_law_pumps","_law_year_here","_law_rule_here","_law_begin","_law_j","_law_later","_law_cells"]
theorem Jk:FnScope ZCw ["_law_script","_law_b","_law_unit_here","_law_pumps"] (Av Rr):=⟨rfl,rfl,rfl,by decide +kernel,rfl,by decide +kernel,by decide +kernel⟩
noncomputable abbrev Zu:Stmt:=top 50
noncomputable abbrev ZJd:List Str:= ["_law_script","_law_b","_law_k","_law_names","_law_river","_law_unit_here","_law_cell","_law_pumps","_law_rule_here","_law_pump","_law_most","_law_to","_law_brim"]
theorem Js:FnScope ZJd ["_law_script","_law_b","_law_k","_law_names","_law_river"] (Av Zu):=⟨rfl,rfl,rfl,by decide +kernel,rfl,by decide +kernel,by decide +kernel⟩
noncomputable abbrev ZB9:Stmt:=top 43
noncomputable abbrev ZKN:List Str:= ["_law_cell","_law_k","_law_many","_law_other","_law_telling"]
theorem ZEA:FnScope ZKN ["_law_cell","_law_k","_law_many"] (Av ZB9):=⟨rfl,rfl,rfl,by decide +kernel,rfl,by decide +kernel,by decide +kernel⟩
noncomputable abbrev Y0:Stmt:=top 52
noncomputable abbrev ZGx:List Str:= ["_law_script","_law_first","_law_many","_law_names","_law_k","_law_places","_law_b","_law_step","_law_delay","_law_river","_law_kind","_law_amount_here","_law_rank"]
theorem G8:FnScope ZGx ["_law_script"] (Av Y0):=⟨rfl,rfl,rfl,by decide +kernel,rfl,by decide +kernel,by decide +kernel⟩
noncomputable abbrev ZCf:Stmt:=top 62
noncomputable abbrev ZK8:List Str:= ["_law_place"]
theorem ZRR:FnScope ZK8 ["_law_place"] (Av ZCf):=⟨rfl,rfl,rfl,by decide +kernel,rfl,by decide +kernel,by decide +kernel⟩
noncomputable abbrev ZEL:Stmt:=top 55
noncomputable abbrev ZSC:List Str:= ["_law_script","_law_cell"]
theorem ZJS:FnScope ZSC ["_law_script"] (Av ZEL):=⟨rfl,rfl,rfl,by decide +kernel,rfl,by decide +kernel,by decide +kernel⟩
noncomputable abbrev ZEK:Stmt:=top 56
noncomputable abbrev ZLj:List Str:= ["_law_number_here"]
theorem ZP6:FnScope ZLj ["_law_number_here"] (Av ZEK):=⟨rfl,rfl,rfl,by decide +kernel,rfl,by decide +kernel,by decide +kernel⟩
noncomputable abbrev ZBZ:Stmt:=top 57
noncomputable abbrev ZHa:List Str:= ["_law_page_here","_law_many","_law_row"]
theorem ZH9:FnScope ZHa ["_law_page_here","_law_many"] (Av ZBZ):=⟨rfl,rfl,rfl,by decide +kernel,rfl,by decide +kernel,by decide +kernel⟩
noncomputable abbrev ZFX:Stmt:=top 53
noncomputable abbrev ZSR:List Str:= ["_law_script","_law_house_here","_law_places","_law_unit_here","_law_b","_law_levels","_law_coming","_law_k","_law_level","_law_cell","_law_row","_law_j"]
theorem I9:FnScope ZSR ["_law_script","_law_house_here"] (Av ZFX):=⟨rfl,rfl,rfl,by decide +kernel,rfl,by decide +kernel,by decide +kernel⟩
noncomputable abbrev Tq:Stmt:=inC (top 35) 0
noncomputable abbrev ZDF:List Str:= ["self","house","state","at","flood","levels","coming"]
theorem ZCK:FnScope ZDF ["self","house","state","at","flood"] (Av Tq):=⟨rfl,rfl,rfl,by decide +kernel,rfl,by decide +kernel,by decide +kernel⟩
noncomputable abbrev ZDr:Stmt:=inC (top 35) 5
noncomputable abbrev ZLb:List Str:= ["self","to","delay","cubes"]
theorem ZQJ:FnScope ZLb ["self","to","delay","cubes"] (Av ZDr):=⟨rfl,rfl,rfl,by decide +kernel,rfl,by decide +kernel,by decide +kernel⟩
noncomputable abbrev ZCA:Stmt:=top 18
noncomputable abbrev ZND:List Str:= ["house","name","number","place"]
theorem ZCt:FnScope ZND ["house","name"] (Av ZCA):=⟨rfl,rfl,rfl,by decide +kernel,rfl,by decide +kernel,by decide +kernel⟩
noncomputable abbrev ZFU:Stmt:=top 19
noncomputable abbrev ZSV:List Str:= ["house","place","name"]
theorem ZI2:FnScope ZSV ["house","place"] (Av ZFU):=⟨rfl,rfl,rfl,by decide +kernel,rfl,by decide +kernel,by decide +kernel⟩
noncomputable abbrev ZER:Stmt:=inC (top 35) 4
noncomputable abbrev ZLt:List Str:= ["self","number","cubes","down"]
theorem ZGh:FnScope ZLt ["self","number","cubes"] (Av ZER):=⟨rfl,rfl,rfl,by decide +kernel,rfl,by decide +kernel,by decide +kernel⟩
noncomputable abbrev ZEj:Stmt:=top 31
noncomputable abbrev ZMz:List Str:= ["stairs","water","river","pump","height","many","way","cubes"]
theorem K6:FnScope ZMz ["stairs","water"] (Av ZEj):=⟨rfl,rfl,rfl,by decide +kernel,rfl,by decide +kernel,by decide +kernel⟩
noncomputable abbrev ZFT:Stmt:=top 30
noncomputable abbrev ZR8:List Str:= ["rule","turn","held","first","stairs"]
theorem Ur:FnScope ZR8 ["rule","turn"] (Av ZFT):=⟨rfl,rfl,rfl,by decide +kernel,rfl,by decide +kernel,by decide +kernel⟩
noncomputable abbrev ZDL:Stmt:=inC (top 35) 2
noncomputable abbrev ZPL:List Str:= ["self","number","place","came","let","pumped","stays","lies","spilled"]
theorem Lx:FnScope ZPL ["self","number"] (Av ZDL):=⟨rfl,rfl,rfl,by decide +kernel,rfl,by decide +kernel,by decide +kernel⟩
noncomputable abbrev Z2:Stmt:=top 26
noncomputable abbrev ZHx:List Str:= ["rows","takes","passing","row","number"]
theorem ZAY:FnScope ZHx ["rows","takes"] (Av Z2):=⟨rfl,rfl,rfl,by decide +kernel,rfl,by decide +kernel,by decide +kernel⟩
noncomputable abbrev ZCR:Stmt:=top 37
noncomputable abbrev ZSL:List Str:= ["house","number","places","down"]
theorem ZCJ:FnScope ZSL ["house","number"] (Av ZCR):=⟨rfl,rfl,rfl,by decide +kernel,rfl,by decide +kernel,by decide +kernel⟩
noncomputable abbrev ZFb:Stmt:=top 38
noncomputable abbrev ZQV:List Str:= ["house","members","came","rows","number","place","down","row_down"]
theorem Oz:FnScope ZQV ["house","members","came"] (Av ZFb):=⟨rfl,rfl,rfl,by decide +kernel,rfl,by decide +kernel,by decide +kernel⟩
noncomputable abbrev T6:Stmt:=top 27
noncomputable abbrev ZCk:List Str:= ["rows","order"]
theorem ZG7:FnScope ZCk ["rows"] (Av T6):=⟨rfl,rfl,rfl,by decide +kernel,rfl,by decide +kernel,by decide +kernel⟩
noncomputable abbrev ZDI:Stmt:=top 28
noncomputable abbrev ZK7:List Str:= ["rows","number","way","down"]
theorem ZBq:FnScope ZK7 ["rows","number"] (Av ZDI):=⟨rfl,rfl,rfl,by decide +kernel,rfl,by decide +kernel,by decide +kernel⟩
noncomputable abbrev ZB0:Stmt:=top 25
noncomputable abbrev ZHt:List Str:= ["rows","takes","passing","number","way","take","below"]
theorem Nh:FnScope ZHt ["rows"] (Av ZB0):=⟨rfl,rfl,rfl,by decide +kernel,rfl,by decide +kernel,by decide +kernel⟩
noncomputable abbrev ZEW:Stmt:=inC (top 35) 3
noncomputable abbrev ZO9:List Str:= ["self","members","rows","takes","number","took","let"]
theorem Pz:FnScope ZO9 ["self","members"] (Av ZEW):=⟨rfl,rfl,rfl,by decide +kernel,rfl,by decide +kernel,by decide +kernel⟩
noncomputable abbrev ZEy:Stmt:=top 36
noncomputable abbrev ZSN:List Str:= ["house","lasts","number","down"]
theorem Wt:FnScope ZSN ["house"] (Av ZEy):=⟨rfl,rfl,rfl,by decide +kernel,rfl,by decide +kernel,by decide +kernel⟩
noncomputable abbrev Vp:Stmt:=inC (top 35) 1
noncomputable abbrev ZFf:List Str:= ["self","lasts","number","last"]
theorem Yk:FnScope ZFf ["self"] (Av Vp):=⟨rfl,rfl,rfl,by decide +kernel,rfl,by decide +kernel,by decide +kernel⟩
noncomputable abbrev Td:Stmt:=inC (top 35) 6
noncomputable abbrev ZD3:List Str:= ["self"]
theorem ZOd:FnScope ZD3 ["self"] (Av Td):=⟨rfl,rfl,rfl,by decide +kernel,rfl,by decide +kernel,by decide +kernel⟩
noncomputable abbrev ZCp:Stmt:=top 34
noncomputable abbrev ZL7:List Str:= ["house","state","at","flood","course"]
theorem ZFw:FnScope ZL7 ["house","state","at","flood"] (Av ZCp):=⟨rfl,rfl,rfl,by decide +kernel,rfl,by decide +kernel,by decide +kernel⟩
noncomputable abbrev Ii:Stmt:=top 65
noncomputable abbrev ZKg:List Str:= ["_law_script","_law_house_here","_law_state_here","_law_page_here","_law_k","_law_part","_law_due","_law_place"]
theorem K1:FnScope ZKg ["_law_script"] (Av Ii):=⟨rfl,rfl,rfl,by decide +kernel,rfl,by decide +kernel,by decide +kernel⟩
noncomputable def Ng:DS:=(sRt (dOp Ay (dOp Bh (dV 1) (dOp Bj (dV 0) (dC (.int 7)))) (dOp Bj (dOp De (dV 0) (dC (.int 7))) (dV 1))))
noncomputable def Mt:List D->DH->R D:=Bq 2 0 Ng
noncomputable def Up:DS:=(sAs (dOp De (dV 0) (dOp Jh (dC (.int 10)) (dC (.int 8)))) (gV 0))
noncomputable def Sx:DS:=(Ah (sIf (Ax (ZAv ZBr Ih (dC (.int 0)) (dV 0) (dOp Jh (dC (.int 10)) (dC (.int 18))))) (Ah (sAs (dOp Bj (dOp Ay (dOp Ay (dV 0) (dOp Bh (dC (.int 1009)) (dV 1))) (dC (.int 7))) (dC (.int 999999937))) (gV 0)) (Ah (sAs (dOp Bj (dOp Bh (dV 0) (dV 0)) (dC (.int 999999929))) (gV 0)) (sRt (dOp Bj (dOp Bh (dV 0) (dOp Ay (dV 0) (dV 1))) (dC (.int 99999989)))))) sNx) (Ah (Dv (Dh rng1 (Ab (dV 1) Ae)) (gV 2) Up) (sRt (dOp Bj (dV 0) (dOp Jh (dC (.int 10)) (dC (.int 8)))))))
noncomputable def Rg:List D->DH->R D:=Bq 2 1 Sx
noncomputable def Qg:DS:=(sRt (Mf (dOp Kf (dFn Du (Ab (dV 0) Ae)) (dC (.int 0))) (Vc (dOp Ih (dOp Ai (dV 0) (dC (.int 0))) (dC (.int 0))) (dOp ZBH (dOp Ai (dV 0) (dC (.int 0))) (dOp Jh (dC (.int 10)) (dC (.int 18)))))))
noncomputable def Mi:List D->DH->R D:=Bq 1 0 Qg
noncomputable def Ds:DS:=(Ah (sIf (Ax (dFn Mi (Ab (dV 0) Ae))) (Ah (sAs (dC (.int 0)) (gV 2)) (Ah (sIf (Ax (dOp Ih (dOp Ay (dC (.int 1)) (dOp De (dV 1) (dC (.int 14)))) (dFn Du (Ab (dV 0) Ae)))) (sAs (dOp Ai (dV 0) (dOp Ay (dC (.int 1)) (dOp De (dV 1) (dC (.int 14))))) (gV 2)) sNx) (sRt (dFn Rg (Ab (dV 2) (Ab (dOp Bj (dV 1) (dC (.int 14))) Ae)))))) sNx) (Ah (sIf (Ax (dOp Ih (dV 1) (dFn Du (Ab (dV 0) Ae)))) (sRt (dOp Ai (dV 0) (dV 1))) sNx) (Ah (sAs (dOp Bj (dOp Bh (dC (.int 48271)) (dOp Ay (dOp Bh (dV 1) (dV 1)) (dOp Bh (dC (.int 7)) (dFn Du (Ab (dV 0) Ae))))) (dC (.int 2147483647))) (gV 2)) (Ah (sIf (Ax (dOp Kf (dFn Du (Ab (dV 0) Ae)) (dC (.int 0)))) (sAs (dOp Ay (dV 2) (dOp Bj (dOp Bh (dOp Ai (dV 0) (dOp Bj (dV 1) (dFn Du (Ab (dV 0) Ae)))) (dC (.int 69621))) (dC (.int 2147483629)))) (gV 2)) sNx) (sRt (dV 2))))))
noncomputable def Bc:List D->DH->R D:=Bq 2 1 Ds
noncomputable def Km:DS:=(sRt (dOp Dc (dOp Bj (dFn Bc (Ab (dV 0) (Ab (dC (.int 2)) Ae))) (dC (.int 2))) (dC (.int 1))))
noncomputable def I8:List D->DH->R D:=Bq 1 0 Km
noncomputable def Jp:DS:=(sRt (dOp Ai (Bx (dFn Ao (Ab (dC (.int 1)) (Ab (dC (.int 1)) (Ab (dOp Jh (dC (.int 10)) (dC (.int 30))) Ae))))) (dOp Bj (dOp De (dFn Bc (Ab (dV 0) (Ab (dC (.int 0)) Ae))) (dC (.int 840))) (dC (.int 3)))))
noncomputable def Gf:List D->DH->R D:=Bq 1 0 Jp
noncomputable def ZDj:DE:=(dFn Bc (Ab (dV 1) (Ab (dOp Ay (dOp Ay (dV 3) (dOp Bh (dV 4) (dV 2))) (dV 0)) Ae)))
noncomputable def ZDc:DE:=(dFn Mt (Ab (dV 0) (Ab (Bx (dFn Gf (Ab (dV 1) Ae))) Ae)))
noncomputable def ZCs:DE:=(Bx (dOp Bh (Bx (dFn Gf (Ab (dV 1) Ae))) (dOp Bj (dV 0) (dC (.int 3)))))
noncomputable def ZDE:DS:=(Ah (sAs (Bx (Er (Dh rng1 (Ab (dV 3) Ae)) 1 [0,3,4,6] (gV 0) Ci ZDj)) (gV 7)) (Ah (sAs (Bx (Er (Ff (dV 7)) 1 [0] (gV 0) Ci ZDc)) (gV 8)) (Ah (sIf (Ax (dFn I8 (Ab (dV 0) Ae))) (sAs (Bx (Er (Ff (dV 7)) 1 [0] (gV 0) Ci ZCs)) (gV 8)) sNx) (sEx (Fv Fq (dV 5) (Ab (dFn Gp (Ab (dV 8) Ae)) Ae))))))
noncomputable def Wz:DS:=(Ah (sAs (dFn Du (Ab (dOp Ai (dV 1) (dC (.int 1))) Ae)) (gV 3)) (Ah (sAs (dOp Ay (dC (.int 6)) (dOp Bh (dC (.int 14)) (dV 3))) (gV 4)) (Ah (sAs (Eu (dFn Ao Ae)) (gV 5)) (Ah (Dv (Dh rng1 (Ab (dV 2) Ae)) (gV 6) ZDE) (sRt (dV 5))))))
noncomputable def Vk:List D->DH->R D:=Bq 3 6 Wz
noncomputable def Iz:DS:=(sIf (Ax (dOp Dc (dOp Ai (dOp Ai (dOp Ai (dV 0) (dC (.int 1))) (dV 2)) (dC (.int 1))) (dOp Ai (dOp Ai (dOp Ai (dV 0) (dC (.int 1))) (dV 1)) (dC (.int 2))))) (sRt (dV 2)) sNx)
noncomputable def Ro:DS:=(Ah (Dv (Dh rng1 (Ab (dFn Du (Ab (dOp Ai (dV 0) (dC (.int 1))) Ae)) Ae)) (gV 2) Iz) (sRt (dC .non)))
noncomputable def Ry:List D->DH->R D:=Bq 2 1 Ro
noncomputable def T3:DS:=(Ah (sAs (dFn Ry (Ab (dV 0) (Ab (dV 1) Ae))) (gV 2)) (Ah (sIf (dOr (Ax (dOp Tc (dV 2) (dC .non))) (dOr (Ax (dOp Kf (dOp Ai (dOp Ai (dOp Ai (dV 0) (dC (.int 1))) (dV 1)) (dC (.int 3))) (dC (.int 0)))) (Ax (dOp Dc (dOp Ai (dOp Ai (dOp Ai (dV 0) (dC (.int 1))) (dV 2)) (dC (.int 0))) (dC (.str "basin")))))) (sRt (dC .non)) sNx) (sRt (dV 2))))
noncomputable def R9:List D->DH->R D:=Bq 2 1 T3
noncomputable def S6:DS:=(sIf (M3 (Ax (dOp J0 (dOp Ai (dOp Ai (dOp Ai (dV 0) (dC (.int 1))) (dV 3)) (dC (.int 0))) (dC (.str "basin")))) (Ax (dOp Tr (dFn R9 (Ab (dV 0) (Ab (dV 3) Ae))) (dV 2)))) (sEx (Fv Fq (dV 2) (Ab (dV 3) Ae))) sNx)
noncomputable def ZAg:DS:=(Ah (sAs (Eu (dFn Ao (Ab (dV 1) Ae))) (gV 2)) (Ah (Dv (Dh rng3 (Ab (dOp Em (dV 1) (dC (.int 1))) (Ab (dUn Nv (dC (.int 1))) (Ab (dUn Nv (dC (.int 1))) Ae)))) (gV 3) S6) (sRt (dV 2))))
noncomputable def ZBx:List D->DH->R D:=Bq 2 2 ZAg
noncomputable def Zb:DS:=(Ah (sAs (dOp Ai (dOp Ai (dV 0) (dC (.int 1))) (dV 1)) (gV 3)) (Ah (sAs (dOp Ai (dOp Ai (dV 0) (dC (.int 1))) (dV 2)) (gV 4)) (sRt (Mf (dOp Dc (dOp Ai (dV 3) (dC (.int 0))) (dC (.str "town"))) (Vc (dOp Ih (dOp Ai (dV 3) (dC (.int 5))) (dOp Ai (dV 4) (dC (.int 5)))) (Mf (dOp Dc (dOp Ai (dV 3) (dC (.int 5))) (dOp Ai (dV 4) (dC (.int 5)))) (dOp Ih (dV 1) (dV 2))))))))
noncomputable def ZAl:List D->DH->R D:=Bq 3 2 Zb
noncomputable def ZAM:DS:=(Ah (sAs (dOp Ay (dV 4) (dOp Ai (dOp Ai (dV 1) (dV 5)) (dC (.int 0)))) (gV 4)) (Ah (sIf (Ax (dOp J0 (dV 5) (dV 3))) (sAs (dOp Em (dV 4) (dOp Ai (dOp Ai (dV 1) (dV 5)) (dC (.int 3)))) (gV 4)) sNx) (sIf (Ax (dFn ZAl (Ab (dV 0) (Ab (dV 5) (Ab (dV 2) Ae))))) (sAs (dOp Em (dV 4) (dOp Ai (dOp Ai (dV 1) (dV 5)) (dC (.int 1)))) (gV 4)) sNx)))
noncomputable def Zq:DS:=(Ah (sAs (dC (.int 0)) (gV 4)) (Ah (Dv (Ff (Bx (dFn ZBx (Ab (dV 0) (Ab (dV 3) Ae))))) (gV 5) ZAM) (sRt (dV 4))))
noncomputable def ZB4:List D->DH->R D:=Bq 4 2 Zq
noncomputable def ZAx:DS:=(sIf (Ax (dOp Dc (dV 4) (dC (.str "pump")))) (sAs (dOp Ay (dV 1) (dV 3)) (gV 1)) sNx)
noncomputable def ZBR:DS:=(Ah (sAs (dC (.int 0)) (gV 1)) (Ah (Dv (Ff (dV 0)) (Cd 3 (Ar (gV 2) (Ar (gV 3) (Ar (gV 4) Cj)))) ZAx) (sRt (dV 1))))
noncomputable def Wk:List D->DH->R D:=Bq 1 4 ZBR
noncomputable def Sy:DS:=(Ah (sAs (dOp Ay (dV 4) (dOp Bh (dV 1) (dOp Bj (dOp Ai (dV 0) (dOp Ay (dC (.int 1)) (dV 5))) (dC (.int 4))))) (gV 4)) (Ah (sAs (dOp Ay (dC (.int 1)) (dOp Bh (dV 1) (dOp Bj (dOp De (dOp Ai (dV 0) (dOp Ay (dC (.int 1)) (dV 5))) (dC (.int 4))) (dC (.int 4))))) (gV 6)) (Ah (sAs (dC (.str "river")) (gV 7)) (Ah (sIf (M3 (Ax (dV 2)) (Ax (dOp Dc (dOp Bj (dOp De (dOp Ai (dV 0) (dOp Ay (dC (.int 1)) (dV 5))) (dC (.int 16))) (dC (.int 2))) (dC (.int 1))))) (sAs (dC (.str "pump")) (gV 7)) sNx) (Ah (sEx (Fv Fq (dV 3) (Ab (dFn Bo (Ab (dV 4) (Ab (dV 6) (Ab (dV 7) Ae)))) Ae))) (sAs (dOp Ay (dV 4) (dV 6)) (gV 4)))))))
noncomputable def ZBX:DS:=(Ah (sAs (Eu (dFn Ao Ae)) (gV 3)) (Ah (sAs (dC (.int 0)) (gV 4)) (Ah (Dv (Dh rng1 (Ab (dOp Bj (dOp Ai (dV 0) (dC (.int 0))) (dC (.int 4))) Ae)) (gV 5) Sy) (sRt (dFn Gp (Ab (dV 3) Ae))))))
noncomputable def ZBO:List D->DH->R D:=Bq 3 5 ZBX
noncomputable def Oi:DS:=(Ah (sAs (dFn Bc (Ab (dV 0) (Ab (dC (.int 1)) Ae))) (gV 1)) (Ah (sIf (Ax (dOp Dc (dOp Bj (dOp De (dV 1) (dC (.int 4))) (dC (.int 4))) (dC (.int 1)))) (sRt (dOp Ay (dC (.int 1)) (dOp Bj (dOp De (dV 1) (dC (.int 16))) (dC (.int 24))))) sNx) (sRt (dOp Ay (dC (.int 1)) (dOp Bj (dV 1) (dC (.int 4)))))))
noncomputable def Jz:List D->DH->R D:=Bq 1 1 Oi
noncomputable def ZDz:DE:=(dOp De (dFn Bc (Ab (dV 1) (Ab (dOp Ay (dOp Ay (dV 2) (dC (.int 5))) (dOp Bj (dOp Ay (dOp Bh (dC (.int 3)) (dV 3)) (dV 0)) (dC (.int 6)))) Ae))) (dOp Ay (dC (.int 1)) (dOp Bh (dC (.int 7)) (dOp De (dV 3) (dC (.int 2))))))
noncomputable def ZFc:DE:=(dOp De (dFn Bc (Ab (dV 1) (Ab (dOp Ay (dOp Ay (dV 2) (dC (.int 5))) (dV 0)) Ae))) (dOp Ai (Bx (dFn Ao (Ab (dC (.int 1)) (Ab (dC (.int 64)) (Ab (dC (.int 4096)) (Ab (dC (.int 262144)) Ae)))))) (dV 3)))
noncomputable def W5:DS:=(sIf (dOr (Ax (dOp Dc (dV 7) (dC (.int 0)))) (M3 (Ax (dOp Dc (dOp Bj (dV 8) (dC (.int 2))) (dC (.int 1)))) (Ax (dOp Ih (dOp Ay (dV 6) (dC (.int 1))) (dV 4))))) (Ah (sIf (Ax (dOp Kf (dV 7) (dC (.int 0)))) (sAs (dOp Ay (dOp Ay (dV 6) (dC (.int 1))) (dOp Bj (dOp De (dV 8) (dC (.int 2))) (dOp Em (dOp Em (dV 4) (dV 6)) (dC (.int 1))))) (gV 6)) sNx) (sEx (Fv Fq (dV 5) (Ab (dFn Bo (Ab (dV 6) (Ab (dFn ZBO (Ab (dV 9) (Ab (dV 2) (Ab (dV 3) Ae)))) Ae))) Ae)))) sNx)
noncomputable def ZG1:DS:=(Ah (sIf (Ax (dFn Mi (Ab (dV 0) Ae))) (Ah (sAs (dOp De (dFn Bc (Ab (dV 0) (Ab (dOp Ay (dV 1) (dC (.int 4))) Ae))) (dOp Ai (Bx (dFn Ao (Ab (dC (.int 1)) (Ab (dC (.int 48)) (Ab (dC (.int 2304)) (Ab (dC (.int 110592)) Ae)))))) (dV 7))) (gV 8)) (sAs (Bx (Er (Dh rng1 (Ab (dC (.int 4)) Ae)) 1 [0,1,7] (gV 0) Ci ZFc)) (gV 9))) sNx) W5)
noncomputable def ZH7:DS:=(Ah (sAs (Bx (Er (Dh rng1 (Ab (dC (.int 4)) Ae)) 1 [0,1,7] (gV 0) Ci ZDz)) (gV 9)) ZG1)
noncomputable def Le:DS:=(Ah (sAs (dOp Bj (dOp Bh (dOp Bh (dFn Bc (Ab (dV 0) (Ab (dOp Ay (dV 1) (dC (.int 4))) Ae))) (dC (.int 48271))) (dOp Ay (dOp Bh (dV 7) (dV 7)) (dC (.int 1)))) (dC (.int 10007))) (gV 8)) ZH7)
noncomputable def ZAn:DS:=(Ah (sAs (dFn Jz (Ab (dV 0) Ae)) (gV 4)) (Ah (sAs (Eu (dFn Ao Ae)) (gV 5)) (Ah (sAs (dC (.int 0)) (gV 6)) (Ah (Dv (Dh rng1 (Ab (dC (.int 4)) Ae)) (gV 7) Le) (sRt (dFn Gp (Ab (dV 5) Ae)))))))
noncomputable def ZBj:List D->DH->R D:=Bq 4 6 ZAn
noncomputable def ZEx:DE:=(dFn Wk (Ab (dOp Ai (dV 0) (dC (.int 1))) Ae))
noncomputable def Uh:DS:=(Ah (sAs (Bx (dFn Gf (Ab (dV 0) Ae))) (gV 5)) (Ah (sAs (dFn Bc (Ab (dV 0) (Ab (dOp Ay (dV 1) (dC (.int 11))) Ae))) (gV 6)) (Ah (sAs (Mf (dOp Kf (dFn Du (Ab (dV 3) Ae)) (dC (.int 1))) (dOp Dc (dOp Bj (dV 6) (dC (.int 2))) (dC (.int 1)))) (gV 7)) (Ah (sAs (dFn ZBj (Ab (dV 0) (Ab (dV 1) (Ab (dV 5) (Ab (dV 7) Ae))))) (gV 8)) (Ah (sAs (dC .non) (gV 9)) (Ah (sIf (Ax (dV 7)) (Ah (sAs (dOp Ay (dFn Pn (Ab (Bx (Er (Ff (dV 8)) 1 [] (gV 0) Ci ZEx)) Ae)) (dOp Bh (dV 5) (dOp Bj (dOp De (dV 6) (dC (.int 130))) (dC (.int 2))))) (gV 10)) (Ah (sAs (dOp Ai (dV 3) (dOp Bj (dOp Ay (dOp Ay (dV 2) (dC (.int 1))) (dOp Bj (dOp De (dV 6) (dC (.int 2))) (dOp Em (dFn Du (Ab (dV 3) Ae)) (dC (.int 1))))) (dFn Du (Ab (dV 3) Ae)))) (gV 11)) (sAs (dFn Bo (Ab (dV 11) (Ab (dOp Ay (dC (.int 1)) (dOp Bj (dOp De (dV 6) (dC (.int 26))) (dC (.int 5)))) (Ab (dV 10) Ae)))) (gV 9)))) sNx) (Ah (sAs (dFn Mt (Ab (dFn Bc (Ab (dV 0) (Ab (dOp Ay (dV 1) (dC (.int 3))) Ae))) (Ab (dV 5) Ae))) (gV 12)) (sRt (dFn Bo (Ab (dC (.str "basin")) (Ab (dOp Ai (dV 3) (dV 2)) (Ab (dOp Ai (dV 4) (dC (.int 0))) (Ab (dOp Ai (dV 4) (dC (.int 1))) (Ab (dV 12) (Ab (dV 8) (Ab (dV 9) Ae))))))))))))))))
noncomputable def U0:List D->DH->R D:=Bq 5 8 Uh
noncomputable def ZBy:DS:=(Ah (sAs (dOp Ai (dC (.str "abcdefghijklmnopqrstuvwxyz")) (dOp Bj (dOp De (dV 0) (dC (.int 21))) (dC (.int 26)))) (gV 3)) (Ah (sIf (M3 (Ax (dOp Dc (dOp Bj (dV 0) (dC (.int 3))) (dC (.int 1)))) (Ax (dOp Ih (dV 2) (dC (.int 9))))) (sRt (dOp Bh (dV 3) (dOp Ay (dV 1) (dC (.int 1))))) sNx) (Ah (sAs (dOp Ai (dC (.str "abcdefghijkl")) (dOp Bj (dOp Ay (dOp Bh (dC (.int 5)) (dV 1)) (dOp De (dV 0) (dC (.int 546)))) (dC (.int 12)))) (gV 4)) (Ah (sIf (Ax (dOp Dc (dOp Bj (dV 0) (dC (.int 3))) (dC (.int 2)))) (sRt (dOp Ay (dV 4) (dOp Bh (dV 3) (dOp Bj (dOp De (dV 0) (dC (.int 3))) (dC (.int 7)))))) sNx) (sRt (dOp Ay (dOp Ay (dOp Bh (dV 3) (dOp Bj (dOp De (dV 0) (dC (.int 3))) (dC (.int 7)))) (dV 4)) (dOp Bh (dV 3) (dOp Em (dC (.int 6)) (dOp Bj (dOp De (dV 0) (dC (.int 3))) (dC (.int 7)))))))))))
noncomputable def Z8:List D->DH->R D:=Bq 3 2 ZBy
noncomputable def ZEQ:DE:=(dFn Z8 (Ab (dFn Bc (Ab (dV 1) (Ab (dC (.int 5)) Ae))) (Ab (dV 0) (Ab (dV 2) Ae))))
noncomputable def Oo:DS:=(sIf (Ax (dOp Ih (dV 10) (dC (.int 2)))) (sEx (Fv Fq (dV 5) (Ab (Bx (dFn U0 (Ab (dV 0) (Ab (dV 6) (Ab (dV 4) (Ab (dV 3) (Ab (dV 9) Ae))))))) Ae))) (sIf (Ax (dOp Ih (dV 10) (dC (.int 4)))) (sEx (Fv Fq (dV 5) (Ab (dFn Bo (Ab (dC (.str "town")) (Ab (dOp Ai (dV 3) (dV 4)) (Ab (dOp Ai (dV 9) (dC (.int 0))) (Ab (dOp Ai (dV 9) (dC (.int 1))) (Ab (dV 11) (Ab (dV 12) Ae))))))) Ae))) (sEx (Fv Fq (dV 5) (Ab (dFn Bo (Ab (dC (.str "mill")) (Ab (dOp Ai (dV 3) (dV 4)) (Ab (dOp Ai (dV 9) (dC (.int 0))) (Ab (dOp Ai (dV 9) (dC (.int 1))) (Ab (dV 11) Ae)))))) Ae)))))
noncomputable def ZBB:DS:=(Ah (sAs (dOp Bj (dFn Bc (Ab (dV 0) (Ab (dOp Ay (dV 6) (dC (.int 4))) Ae))) (dOp Ai (Bx (dFn Ao (Ab (dC (.int 4)) (Ab (dOp Jh (dC (.int 10)) (dC (.int 40))) Ae)))) (dOp Bh (dOp Bj (dOp De (dV 1) (dC (.int 840))) (dC (.int 2))) (dFn U7 (Ab (ZAJ (dFn I8 (Ab (dV 0) Ae))) Ae))))) (gV 12)) Oo)
noncomputable def Q9:DS:=(Ah (sAs (dFn Mt (Ab (dFn Bc (Ab (dV 0) (Ab (dOp Ay (dV 6) (dC (.int 3))) Ae))) (Ab (Bx (dFn Gf (Ab (dV 0) Ae))) Ae))) (gV 11)) ZBB)
noncomputable def O3:DS:=(Ah (sIf (Ax (dFn I8 (Ab (dV 0) Ae))) (sAs (dOp Ai (Bx (dFn Ao (Ab (dC (.int 2)) (Ab (dC (.int 3)) (Ab (dC (.int 2)) (Ab (dC (.int 3)) (Ab (dC (.int 4)) Ae))))))) (dV 10)) (gV 10)) sNx) Q9)
noncomputable def Kl:DS:=(Ah (sAs (dOp Bj (dFn Bc (Ab (dV 0) (Ab (dV 6) Ae))) (dC (.int 5))) (gV 10)) O3)
noncomputable def ZDf:DS:=(Ah (sIf (Ax (dOp Kf (dV 7) (dC (.int 0)))) (sAs (dFn Bo (Ab (dOp Ai (dV 3) (dOp Ay (dV 4) (dV 7))) (Ab (dOp Ai (dV 9) (dC (.int 1))) Ae))) (gV 9)) sNx) Kl)
noncomputable def ZD8:DS:=(Ah (sAs (dFn Bo (Ab (dC (.str "sea")) (Ab (dOp Bh (dOp Bj (dV 8) (dC (.int 2))) (dOp Bj (dOp De (dV 8) (dC (.int 2))) (dC (.int 6)))) Ae))) (gV 9)) ZDf)
noncomputable def Sv:DS:=(Ah (sAs (dFn Bc (Ab (dV 0) (Ab (dOp Ay (dV 6) (dC (.int 2))) Ae))) (gV 8)) ZD8)
noncomputable def ZCC:DS:=(Ah (sIf (dOr (Ax (dOp Dc (dOp Bj (dOp De (dV 1) (dC (.int 280))) (dC (.int 3))) (dC (.int 1)))) (Ax (dFn I8 (Ab (dV 0) Ae)))) (sAs (dFn Lf (Ab (dC (.int 1)) (Ab (dOp Em (dOp Em (dV 2) (dC (.int 1))) (dV 4)) Ae))) (gV 7)) sNx) Sv)
noncomputable def X3:DS:=(Ah (sAs (dOp Bj (dFn Bc (Ab (dV 0) (Ab (dOp Ay (dV 6) (dC (.int 1))) Ae))) (dOp Em (dV 2) (dV 4))) (gV 7)) ZCC)
noncomputable def Ly:DS:=(Ah (sAs (dOp Ay (dC (.int 6)) (dOp Bh (dC (.int 12)) (dV 4))) (gV 6)) X3)
noncomputable def Vn:DS:=(Ah (sAs (dFn Bc (Ab (dV 0) (Ab (dC (.int 0)) Ae))) (gV 1)) (Ah (sAs (dOp Ay (dOp Ay (dC (.int 1)) (dOp Bj (dV 1) (dC (.int 5)))) (dFn U7 (Ab (dFn I8 (Ab (dV 0) Ae)) Ae))) (gV 2)) (Ah (sIf (Ax (dOp Dc (dOp Bj (dOp De (dV 1) (dC (.int 5))) (dC (.int 8))) (dC (.int 1)))) (sAs (dOp Ay (dC (.int 6)) (dOp Bj (dOp De (dV 1) (dC (.int 40))) (dC (.int 7)))) (gV 2)) sNx) (Ah (sAs (Bx (Er (Dh rng1 (Ab (dV 2) Ae)) 1 [0,2] (gV 0) Ci ZEQ)) (gV 3)) (Ah (sAs (Eu (dFn Ao Ae)) (gV 5)) (Ah (Dv (Dh rng1 (Ab (dV 2) Ae)) (gV 4) Ly) (sRt (dFn Bo (Ab (dFn Jz (Ab (dV 0) Ae)) (Ab (dFn Gp (Ab (dV 5) Ae)) Ae))))))))))
noncomputable def Vl:List D->DH->R D:=Bq 1 12 Vn
noncomputable def Wu:DS:=(Ah (sIf (Ax (dOp Dc (dOp Ai (dV 0) (dC (.int 0))) (dC (.str "town")))) (sRt (dOp Ai (dV 0) (dC (.int 4)))) sNx) (sRt (dC (.int 0))))
noncomputable def W8:List D->DH->R D:=Bq 1 0 Wu
noncomputable def Rk:DS:=(Ah (sAs (dFn Bc (Ab (dV 0) (Ab (dC (.int 3)) Ae))) (gV 1)) (sRt (dOp Bj (dOp De (dV 1) (dC (.int 2))) (dOp Ai (Bx (dFn Ao (Ab (dC (.int 50)) (Ab (dOp Jh (dC (.int 10)) (dC (.int 39))) Ae)))) (dOp Bj (dV 1) (dC (.int 2)))))))
noncomputable def Sh:List D->DH->R D:=Bq 1 1 Rk
noncomputable def Zx:DS:=(sRt (Mf (dFn Ij (Ab (dV 0) (Ab (dC (.ty "int")) Ae))) (Mf (ZAJ (dFn Ij (Ab (dV 0) (Ab (dC (.ty "bool")) Ae)))) (dOp ZBH (dV 0) (dC (.int 0))))))
noncomputable def Uk:List D->DH->R D:=Bq 1 0 Zx
noncomputable def ZIt:DE:=(dFn Uk (Ab (dV 0) Ae))
noncomputable def ZAK:DS:=(Ah (sIf (dOr (Pa (Ax (dFn Ij (Ab (dV 2) (Ab (dC (.ty "tuple")) Ae))))) (Ax (dOp J0 (dFn Du (Ab (dV 2) Ae)) (dC (.int 6))))) (sRt (dC (.bl false))) sNx) (sIf (Pa (Ax (dFn Sd (Ab (Bx (Er (Ff (dV 2)) 1 [] (gV 0) Ci ZIt)) Ae)))) (sRt (dC (.bl false))) sNx))
noncomputable def ZA9:DS:=(Ah (sIf (dOr (Pa (Ax (dFn Ij (Ab (dV 0) (Ab (dC (.ty "tuple")) Ae))))) (Ax (dOp J0 (dFn Du (Ab (dV 0) Ae)) (dV 1)))) (sRt (dC (.bl false))) sNx) (Ah (Dv (Ff (dV 0)) (gV 2) ZAK) (sRt (dC (.bl true)))))
noncomputable def Y5:List D->DH->R D:=Bq 2 1 ZA9
noncomputable def ZIW:DS:=(sAs (dOp De (dV 9) (dC (.int 3))) (gV 9))
noncomputable def Qx:DS:=(Ah (sEx (Fv Fq (dV 10) (Ab (dOp Bh (dV 3) (dOp Bj (dV 9) (dC (.int 3)))) Ae))) ZIW)
noncomputable def ZF0:DS:=(sEx (Fv Fq (dV 6) (Ab (dFn Gp (Ab (dV 10) Ae)) Ae)))
noncomputable def Wh:DS:=(Ah (Dv (Dh rng1 (Ab (dC (.int 5)) Ae)) (gV 11) Qx) ZF0)
noncomputable def ZHV:DS:=(Ah (sAs (Eu (dFn Ao Ae)) (gV 10)) Wh)
noncomputable def ZIN:DS:=(Ah (sAs (dFn Bc (Ab (dV 0) (Ab (dOp Ay (dOp Ay (dV 4) (dFn Du (Ab (dV 2) Ae))) (dV 7)) Ae))) (gV 9)) ZHV)
noncomputable def Xu:DS:=(Ah (sEx (Fv Fq (dV 5) (Ab (dV 8) Ae))) ZIN)
noncomputable def ZGR:DS:=(Ah (sIf (Ax (dOp Dc (dOp Ai (dOp Ai (dV 2) (dV 7)) (dC (.int 0))) (dC (.str "basin")))) (sAs (dOp Bj (dFn Mt (Ab (dFn Bc (Ab (dV 0) (Ab (dOp Ay (dV 4) (dV 7)) Ae))) (Ab (dV 3) Ae))) (dOp Ay (dOp Ai (dOp Ai (dV 2) (dV 7)) (dC (.int 4))) (dC (.int 1)))) (gV 8)) sNx) Xu)
noncomputable def Ss:DS:=(Ah (sAs (dC (.int 0)) (gV 8)) ZGR)
noncomputable def ZBE:DS:=(Ah (sAs (dOp Ai (dV 1) (dC (.int 1))) (gV 2)) (Ah (sAs (Bx (dFn Gf (Ab (dV 0) Ae))) (gV 3)) (Ah (sAs (dOp Ay (dC (.int 6)) (dOp Bh (dC (.int 12)) (dFn Du (Ab (dV 2) Ae)))) (gV 4)) (Ah (sAs (Eu (dFn Ao Ae)) (gV 5)) (Ah (sAs (Eu (dFn Ao Ae)) (gV 6)) (Ah (Dv (Dh rng1 (Ab (dFn Du (Ab (dV 2) Ae)) Ae)) (gV 7) Ss) (sRt (dFn Bo (Ab (dFn Gp (Ab (dV 5) Ae)) (Ab (dFn Gp (Ab (dV 6) Ae)) Ae))))))))))
noncomputable def Ys:List D->DH->R D:=Bq 2 10 ZBE
noncomputable def Wc:DE:=(dOp Ay (dV 0) (dOp Ai (dV 1) (dC (.int 0))))
noncomputable def Ux:DE:=(Eu (dOp Ay (Bx (dFn ZAt (Ab (Bx (dSl (dV 0) (some (dC (.int 1))) none)) Ae))) (Bx (dFn Ao (Ab (dC (.int 0)) Ae)))))
noncomputable def Yq:DS:=(Ah (sAs (dV 2) (Cd 2 (Ar (gV 5) (Ar (gV 6) Cj)))) (Ah (Gh "Course" (dV 0) (dV 1) "house") (Ah (Gh "Course" (dV 0) (dV 5) "levels") (Ah (Gh "Course" (dV 0) (dOp Bj (dV 3) (dOp Ai (dV 1) (dC (.int 0)))) "year_turn") (Ah (Gh "Course" (dV 0) (Er (Dh (Ig 2) (Ab (dV 4) (Ab (dV 6) Ae))) 2 [] (Cd 2 (Ar (gV 0) (Ar (gV 1) Cj))) Ci Wc) "came") (Ah (Gh "Course" (dV 0) (Er (Ff (dV 6)) 1 [] (gV 0) Ci Ux) "coming") (Ah (Gh "Course" (dV 0) (Eu (dOp Kq (dFn Ao (Ab (dC .non) Ae)) (dFn Du (Ab (dV 5) Ae)))) "page") (Gh "Course" (dV 0) (Eu (dFn Ao Ae)) "reaches"))))))))
noncomputable def Th:List D->DH->R D:=Bq 5 2 Yq
noncomputable def Tu:DS:=(sIf (Ax (dOp Dc (dV 2) (dC (.int 0)))) (Qe (Et "Course" (dV 0) "came") (dV 1) (dV 3) M8) (Qe (dOp Ai (Et "Course" (dV 0) "coming") (dV 1)) (dOp Em (dV 2) (dC (.int 1))) (dV 3) M8))
noncomputable def Ul:List D->DH->R D:=Bq 4 0 Tu
noncomputable def Ql:DS:=(sIf (Ax (dOp Dc (dOp Ai (dV 3) (dC (.int 1))) (dV 1))) (sRt (dV 2)) sNx)
noncomputable def Qy:DS:=(Ah (Dv (Dh Ip (Ab (dOp Ai (dV 0) (dC (.int 1))) Ae)) (Cd 2 (Ar (gV 2) (Ar (gV 3) Cj))) Ql) sBad)
noncomputable def Qt:List D->DH->R D:=Bq 2 2 Qy
noncomputable def Uy:DS:=(Ah (sAs (dOp Ai (dOp Ai (dOp Ai (dV 0) (dC (.int 1))) (dV 1)) (dC (.int 2))) (gV 2)) (Ah (sIf (Ax (dOp Dc (dV 2) (dC (.str "sea")))) (sRt (dC .non)) sNx) (sRt (dFn Qt (Ab (dV 0) (Ab (dV 2) Ae))))))
noncomputable def Tv:List D->DH->R D:=Bq 2 1 Uy
noncomputable def Sg:DS:=(Ah (sAs (dFn Tv (Ab (Et "Course" (dV 0) "house") (Ab (dV 1) Ae))) (gV 3)) (sIf (Ax (dOp Ln (dV 3) (dC .non))) (sEx (Im "Course" "send" Ul (dV 0) (Ab (dV 3) (Ab (dOp Ai (dOp Ai (dOp Ai (Et "Course" (dV 0) "house") (dC (.int 1))) (dV 1)) (dC (.int 3))) (Ab (dV 2) Ae))))) sNx))
noncomputable def T5:List D->DH->R D:=Bq 3 1 Sg
noncomputable def Vo:DS:=(Ah (sAs (dFn ZBd (Ab (dC (.int 0)) (Ab (dFn Lf (Ab (dV 5) (Ab (dOp Em (dV 1) (dV 4)) Ae))) Ae))) (gV 7)) (sIf (Ax (dOp Dc (dV 6) (dC (.str "river")))) (sAu 2 (dV 7) M8) (sAu 3 (dV 7) M8)))
noncomputable def Vv:DS:=(Ah (sAs (dC (.int 0)) (gV 2)) (Ah (sAs (dC (.int 0)) (gV 3)) (Ah (Dv (Ff (dV 0)) (Cd 3 (Ar (gV 4) (Ar (gV 5) (Ar (gV 6) Cj)))) Vo) (sRt (dFn Bo (Ab (dV 2) (Ab (dV 3) (Ab (dOp Em (dOp Em (dV 1) (dV 2)) (dV 3)) Ae))))))))
noncomputable def ZAb:List D->DH->R D:=Bq 2 6 Vv
noncomputable def Y6:DS:=(sIf (Ax (dOp ZBr (dV 3) (dV 1))) (sAs (dV 4) (gV 2)) sNx)
noncomputable def W2:DS:=(Ah (sAs (dFn Bo Ae) (gV 2)) (Ah (Dv (Ff (dV 0)) (Cd 2 (Ar (gV 3) (Ar (gV 4) Cj))) Y6) (sRt (dV 2))))
noncomputable def ZAD:List D->DH->R D:=Bq 2 3 W2
noncomputable def X6:DS:=(Ah (sAs (dOp Ai (dOp Ai (Et "Course" (dV 0) "house") (dC (.int 1))) (dV 1)) (gV 2)) (Ah (sAs (dOp Ai (Et "Course" (dV 0) "came") (dV 1)) (gV 3)) (Ah (sAs (dFn ZAb (Ab (dFn ZAD (Ab (dOp Ai (dV 2) (dC (.int 5))) (Ab (Et "Course" (dV 0) "year_turn") Ae))) (Ab (dOp Ay (dOp Ai (Et "Course" (dV 0) "levels") (dV 1)) (dV 3)) Ae))) (Cd 3 (Ar (gV 4) (Ar (gV 5) (Ar (gV 6) Cj))))) (Ah (sAs (dFn Lf (Ab (dV 6) (Ab (dOp Ai (dV 2) (dC (.int 4))) Ae))) (gV 7)) (Ah (sAs (dOp Em (dV 6) (dV 7)) (gV 8)) (Ah (sAs (dFn Bo (Ab (dV 3) (Ab (dC (.int 0)) (Ab (dV 8) (Ab (dV 4) (Ab (dV 5) (Ab (dV 7) Ae))))))) (gIx (Et "Course" (dV 0) "page") (dV 1))) (Ah (sEx (Im "Course" "send_down" T5 (dV 0) (Ab (dV 1) (Ab (dOp Ay (dV 4) (dV 8)) Ae)))) (sIf (Ax (dOp Ln (dOp Ai (dV 2) (dC (.int 6))) (dC .non))) (sEx (Im "Course" "send" Ul (dV 0) (Ab (dFn Qt (Ab (Et "Course" (dV 0) "house") (Ab (dOp Ai (dOp Ai (dV 2) (dC (.int 6))) (dC (.int 0))) Ae))) (Ab (dOp Ai (dOp Ai (dV 2) (dC (.int 6))) (dC (.int 1))) (Ab (dV 5) Ae))))) sNx))))))))
noncomputable def Vs:List D->DH->R D:=Bq 2 7 X6
noncomputable def ZCq:DE:=(dOp Em (dOp Ai (dV 0) (dC (.int 1))) (dV 1))
noncomputable def N5:DS:=(sIf (Ax (dOp Ln (dOp Ai (dV 3) (dC (.int 0))) (dC .non))) (Qe (dV 2) (dOp Ai (dV 3) (dC (.int 0))) (dOp Ai (dV 2) (dV 4)) M8) sNx)
noncomputable def S7:DS:=(Ah (sAs (Er (Dh (Ig 2) (Ab (dV 0) (Ab (dV 1) Ae))) 2 [] (Cd 2 (Ar (gV 0) (Ar (gV 1) Cj))) Ci ZCq) (gV 2)) (Ah (Dv (Dh Ip (Ab (dV 0) Ae)) (Cd 2 (Ar (gV 4) (Ar (gV 3) Cj))) N5) (sRt (dV 2))))
noncomputable def Q0:List D->DH->R D:=Bq 2 3 S7
noncomputable def Um:DS:=(Ah (sAs (dOp Ai (dV 0) (dC (.int 1))) (gV 2)) (Ah (sAs (dFn Tv (Ab (dV 0) (Ab (dV 1) Ae))) (gV 3)) (Ah (sIf (dOr (Ax (dOp Tc (dV 3) (dC .non))) (Ax (dOp Kf (dOp Ai (dOp Ai (dV 2) (dV 1)) (dC (.int 3))) (dC (.int 0))))) (sRt (dC .non)) sNx) (Ah (sIf (dOr (Ax (dOp Dc (dOp Ai (dOp Ai (dV 2) (dV 1)) (dC (.int 0))) (dC (.str "basin")))) (Ax (dOp Dc (dOp Ai (dOp Ai (dV 2) (dV 3)) (dC (.int 0))) (dC (.str "basin"))))) (sRt (dC .non)) sNx) (sRt (dV 3))))))
noncomputable def Rm:List D->DH->R D:=Bq 2 2 Um
noncomputable def Uo:DS:=(Ah (sAs (dOp Ai (dOp Ai (dV 0) (dC (.int 1))) (dV 4)) (gV 5)) (Ah (sAs (dFn Rm (Ab (dV 0) (Ab (dV 4) Ae))) (gV 6)) (Ah (sAs (dIf (Ax (dOp Tc (dV 6) (dC .non))) (dC .non) (Fv Qi (dV 1) (Ab (dV 6) Ae))) (gV 7)) (sIf (Ax (dOp Dc (dOp Ai (dV 5) (dC (.int 0))) (dC (.str "town")))) (sEx (Fv Fq (dV 3) (Ab (dFn Bo (Ab (dV 7) (Ab (dOp Ai (dV 2) (dV 4)) (Ab (dOp Ai (dV 5) (dC (.int 4))) (Ab (dOp Ai (dV 5) (dC (.int 5))) Ae))))) Ae))) (sEx (Fv Fq (dV 3) (Ab (dFn Bo (Ab (dV 7) (Ab (dOp Ai (dV 2) (dV 4)) (Ab (dC (.int 0)) (Ab (dC (.int 0)) Ae))))) Ae)))))))
noncomputable def ZBL:DS:=(Ah (sAs (Eu (dFn Ao Ae)) (gV 3)) (Ah (Dv (Ff (dV 1)) (gV 4) Uo) (sRt (dV 3))))
noncomputable def Y8:List D->DH->R D:=Bq 3 5 ZBL
noncomputable def ZDS:DE:=(dFn Bo (Ab (dOp Ai (dV 1) (dC (.int 3))) (Ab (dV 0) Ae)))
noncomputable def ZCV:DE:=(dV 1)
noncomputable def Xr:DS:=(Ah (sAs (Bx (dFn Tf (Ab (Bx (Er (Dh Ip (Ab (dV 0) Ae)) 2 [] (Cd 2 (Ar (gV 0) (Ar (gV 1) Cj))) Ci ZDS)) Ae))) (gV 1)) (sRt (Er (Ff (dV 1)) 2 [] (Cd 2 (Ar (gV 0) (Ar (gV 1) Cj))) Ci ZCV)))
noncomputable def ZBU:List D->DH->R D:=Bq 1 1 Xr
noncomputable def Tz:DS:=(Ah (sEx (Fv Fq (dV 2) (Ab (dV 3) Ae))) (sAs (dOp Ai (dOp Ai (dV 0) (dV 3)) (dC (.int 0))) (gV 3)))
noncomputable def Mz:DB:=(Ax (dOp Ln (dV 3) (dC .non)))
noncomputable def W7:DS:=(Ah (sAs (Eu (dFn Ao (Ab (dV 1) Ae))) (gV 2)) (Ah (sAs (dOp Ai (dOp Ai (dV 0) (dV 1)) (dC (.int 0))) (gV 3)) (Ah (sWh Mz Tz fuel) (sRt (dV 2)))))
noncomputable def Xe:List D->DH->R D:=Bq 2 2 W7
noncomputable def ZEU:DE:=(dOp Ai (dV 1) (dV 0))
noncomputable def Yd:DS:=(Qe (dV 2) (dV 6) (dV 5) Em)
noncomputable def T8:DS:=(Ah (sAs (Bx (dFn Xe (Ab (dV 0) (Ab (dV 3) Ae)))) (gV 4)) (Ah (sAs (dFn Lf (Ab (dOp Ai (dOp Ai (dV 0) (dV 3)) (dC (.int 2))) (Ab (dFn Oj (Ab (Bx (Er (Ff (dV 4)) 1 [2] (gV 0) Ci ZEU)) Ae)) Ae))) (gV 5)) (Ah (sAs (dV 5) (gIx (dV 1) (dV 3))) (Dv (Ff (dV 4)) (gV 6) Yd))))
noncomputable def W6:DS:=(Ah (sAs (Eu (dOp Kq (dFn Ao (Ab (dC (.int 0)) Ae)) (dFn Du (Ab (dV 0) Ae)))) (gV 1)) (Ah (sAs (Eu (dFn Q0 (Ab (dV 0) (Ab (dV 1) Ae)))) (gV 2)) (Ah (Dv (Ff (Bx (dFn ZBU (Ab (dV 0) Ae)))) (gV 3) T8) (sRt (dV 1)))))
noncomputable def Xi:List D->DH->R D:=Bq 1 6 W6
noncomputable def M9:DS:=(Ah (sAs (dFn Bo (Ab (dOp Ay (dV 5) (dV 6)) (Ab (dV 5) (Ab (dC (.int 0)) (Ab (dV 6) (Ab (dC (.int 0)) (Ab (dC (.int 0)) Ae))))))) (gIx (Et "Course" (dV 0) "page") (dV 4))) (sIf (Ax (dOp Dc (dV 4) (dOp Ai (dV 1) (dUn Nv (dC (.int 1)))))) (sEx (Im "Course" "send_down" T5 (dV 0) (Ab (dV 4) (Ab (dV 6) Ae)))) sNx))
noncomputable def Z6:DS:=(Ah (sAs (Bx (dFn Y8 (Ab (Et "Course" (dV 0) "house") (Ab (dV 1) (Ab (Et "Course" (dV 0) "came") Ae))))) (gV 2)) (Ah (sAs (Bx (dFn Xi (Ab (dV 2) Ae))) (gV 3)) (Ah (Dv (Dh (Ig 3) (Ab (dV 1) (Ab (dV 3) (Ab (Bx (dFn Q0 (Ab (dV 2) (Ab (dV 3) Ae)))) Ae)))) (Cd 3 (Ar (gV 4) (Ar (gV 5) (Ar (gV 6) Cj)))) M9) (sEx (Fv Fq (Et "Course" (dV 0) "reaches") (Ab (Eu (dFn Bo (Ab (dV 1) (Ab (dV 2) Ae)))) Ae))))))
noncomputable def ZBK:List D->DH->R D:=Bq 2 5 Z6
noncomputable def ZAW:DS:=(Ah (sAs (dFn Rm (Ab (dV 0) (Ab (dV 2) Ae))) (gV 3)) (sIf (Ax (dOp Ln (dV 3) (dC .non))) (sAs (dOp Ai (dV 1) (dV 3)) (gIx (dV 1) (dV 2))) sNx))
noncomputable def Yv:DS:=(Ah (sAs (Eu (dLR (Ab (dFn Du (Ab (dOp Ai (dV 0) (dC (.int 1))) Ae)) Ae))) (gV 1)) (Ah (Dv (Dh rng3 (Ab (dOp Em (dFn Du (Ab (dOp Ai (dV 0) (dC (.int 1))) Ae)) (dC (.int 1))) (Ab (dUn Nv (dC (.int 1))) (Ab (dUn Nv (dC (.int 1))) Ae)))) (gV 2) ZAW) (sRt (dV 1))))
noncomputable def Yj:List D->DH->R D:=Bq 1 3 Yv
noncomputable def Yi:DE:=(dV 0)
noncomputable def V1:DB:=(Ax (dOp Dc (dV 1) (dV 2)))
noncomputable def Q6:DS:=(sIf (Ax (dOp Dc (dOp Ai (dOp Ai (dOp Ai (Et "Course" (dV 0) "house") (dC (.int 1))) (dV 2)) (dC (.int 0))) (dC (.str "basin")))) (sEx (Im "Course" "go_basin" Vs (dV 0) (Ab (dV 2) Ae))) (sIf (Ax (dOp Dc (dV 3) (dV 2))) (sEx (Im "Course" "go_reach" ZBK (dV 0) (Ab (Bx (Er (Dh Ip (Ab (dV 1) Ae)) 2 [2] (Cd 2 (Ar (gV 0) (Ar (gV 1) Cj))) V1 Yi)) Ae))) sNx))
noncomputable def Zf:DS:=(Ah (sAs (Bx (dFn Yj (Ab (Et "Course" (dV 0) "house") Ae))) (gV 1)) (Dv (Dh Ip (Ab (dV 1) Ae)) (Cd 2 (Ar (gV 2) (Ar (gV 3) Cj))) Q6))
noncomputable def ZBJ:List D->DH->R D:=Bq 1 3 Zf
noncomputable def We:DE:=(dOp Ai (dV 0) (dC (.int 5)))
noncomputable def Yb:DE:=(dFn Gp (Ab (dV 0) Ae))
noncomputable def Z7:DS:=(sRt (dFn Bo (Ab (dFn Gp (Ab (Bx (Er (Ff (Et "Course" (dV 0) "page")) 1 [] (gV 0) Ci We)) Ae)) (Ab (dFn Gp (Ab (Bx (Er (Ff (Et "Course" (dV 0) "coming")) 1 [] (gV 0) Ci Yb)) Ae)) Ae))))
noncomputable def ZAp:List D->DH->R D:=Bq 1 0 Z7
noncomputable def Vu:DS:=(Ah (sAs (ZEr "Course" Th (Ab (dV 0) (Ab (dV 1) (Ab (dV 2) (Ab (dV 3) Ae))))) (gV 4)) (Ah (sEx (Im "Course" "go" ZBJ (dV 4) Ae)) (sRt (dFn Bo (Ab (dFn Gp (Ab (Et "Course" (dV 4) "page") Ae)) (Ab (Im "Course" "state_behind" ZAp (dV 4) Ae) Ae))))))
noncomputable def Zg:List D->DH->R D:=Bq 4 1 Vu
noncomputable def Ms:DS:=(Ah (sAs (dFn Lf (Ab (dV 6) (Ab (dFn ZB4 (Ab (dV 1) (Ab (dV 3) (Ab (dV 4) (Ab (dV 7) Ae))))) Ae))) (gV 6)) (sAs (dFn R9 (Ab (dV 1) (Ab (dV 7) Ae))) (gV 7)))
noncomputable def K4:DB:=(M3 (Ax (dOp Dc (dOp Ai (dV 5) (dC (.int 0))) (dC (.str "town")))) (Ax (dOp Ln (dV 7) (dC .non))))
noncomputable def Wm:DS:=(sIf (Ax (dOp J0 (dOp Ai (dV 5) (dC (.int 0))) (dC (.str "basin")))) (Ah (sAs (dFn W8 (Ab (dV 5) Ae)) (gV 6)) (Ah (sAs (dV 4) (gV 7)) (Ah (sWh K4 Ms fuel) (sIf (dOr (Ax (dOp J0 (dOp Ai (dOp Ai (dV 3) (dV 4)) (dC (.int 1))) (dV 6))) (Ax (dOp J0 (dOp Ai (dOp Ai (dV 3) (dV 4)) (dC (.int 3))) (dOp Em (dOp Ai (dOp Ai (dV 3) (dV 4)) (dC (.int 0))) (dV 6))))) (sRt (dC (.bl false))) sNx)))) sNx)
noncomputable def Mr:DS:=(Ah (sAs (dOp Ai (dOp Ai (dV 1) (dC (.int 1))) (dV 4)) (gV 5)) Wm)
noncomputable def ZB6:DS:=(Ah (sAs (dFn Vl (Ab (dV 0) Ae)) (gV 1)) (Ah (sAs (dFn Ys (Ab (dV 0) (Ab (dV 1) Ae))) (gV 2)) (Ah (sAs (dOp Ai (dFn Zg (Ab (dV 1) (Ab (dV 2) (Ab (dFn Sh (Ab (dV 0) Ae)) (Ab (dOp Ai (Bx (dFn Vk (Ab (dV 0) (Ab (dV 1) (Ab (dC (.int 1)) Ae))))) (dC (.int 0))) Ae))))) (dC (.int 0))) (gV 3)) (Ah (sIf (Pa (Ax (dFn Y5 (Ab (dV 3) (Ab (dFn Du (Ab (dOp Ai (dV 1) (dC (.int 1))) Ae)) Ae))))) (sRt (dC (.bl false))) sNx) (Ah (Dv (Dh rng1 (Ab (dFn Du (Ab (dV 3) Ae)) Ae)) (gV 4) Mr) (sRt (dC (.bl true))))))))
noncomputable def Nz:List D->DH->R D:=Bq 1 7 ZB6
noncomputable def Holds:Prop:=∀ns:List Int,ns.length<=63->∃G,Nz [.fl (ns.map D.int)] []=.ok (.bl true) G
end Law
namespace Law
open PySem L2 DL
variable {ns xs:List Int} {k m i d j b p to dl a:Nat} {F T P ca fl lv f X:Nat->Int} {G L:DH} {A:DO} {ds:List D} {ws ms l:List Nat} {x:Option D} {α:Type} {t w yt c at_ u yr:Int} {q:Option (Nat×Nat×Int)} {H LV:D} {pg:Nat->List Int} {S:DSt} {co:Nat->Nat->Int} {nm:Nat->Str} {dns:Bool}
theorem ZIy:∃b,∀G,Mi [.fl (ns.map D.int)] G=.ok (.bl b) G:=by
 cases ns with
 | nil=>exact ⟨false,λG=>by unfold Mi Qg;rw [Be];simp [Bd]⟩
 | cons n r=>
  refine ⟨decide (n < 0) || decide (1000000000000000000<=n),λG=> ?_⟩;unfold Mi Qg;rw [Be];have a0:atI ((n::r).map D.int) 0=some (.int n):=Ex (k:=0) rfl rfl;by_cases h:n < 0
  ·simp [a0,h,Bd]
  ·simp [a0,h,Bd]
noncomputable def offV:Nat->Int->Int
 | 0,v=>v
 | n + 1,v=>offV n (v / 100000000)
theorem ZHz {k:D} {G:DH}:∀(n:Nat) (j:Nat) (v:Int) (x:Option D),∃x',Bg (gV 2) Up (Cg j n) [some (.int v),some k,x] G=.nx [some (.int (offV n v)),some k,x'] G
 | 0,j,v,x=>⟨x,by rw [Ob,Ec];rfl⟩
 | n + 1,j,v,x=>by
  obtain ⟨x',ih⟩:=ZHz (k:=k) (G:=G) n (j + 1) (v / 100000000) (some (.int j));refine ⟨x',?_⟩;have hb:Up [some (.int v),some k,some (.int j)] G=.nx [some (.int (v / 100000000)),some k,some (.int j)] G:=by unfold Up;simp
  rw [Kp,Dk];simp only [Do,R.Dj,List.set,hb,Dt];have e1:((j:Int) + 1)=((j + 1:Nat):Int):=by lia
  rw [e1,ih]
  rfl
theorem ZI7 {v:Int} (hk:k<=1000):∃r:Int,(0<=r/\r < 100000000)/\∀G,Rg [.int v,.int k] G=.ok (.int r) G:=by
 by_cases h:0<=v/\v < 1000000000000000000
 ·let a:=(v + 1009 * (k:Int) + 7) % 999999937;let b:=a * a % 999999929;refine ⟨b * (b + k) % 99999989,by lia,λG=> ?_⟩;have ha:0<=a/\a < 999999937:=by lia
  have hb:0<=b/\b < 999999929:=by lia
  unfold Rg Sx;rw [Be];have m1:Bh (.int a) (.int a)=λG=>R.ok (.int (a * a)) G:=by funext G;exact Jq (by lia) (by lia)
  have m2:Bh (.int b) (.int (b + k))=λG=>R.ok (.int (b * (b + k))) G:=by funext G;exact Jq (by lia) (by lia)
  simp [h.1,h.2]
  rw [show (v + 1009 * (k:Int) + 7) % 999999937=a from rfl,m1]
  simp
  rw [show a * a % 999999929=b from rfl,m2]
  simp [Bd]
 ·refine ⟨offV k v % 100000000,by lia,λG=> ?_⟩;obtain ⟨x',hx⟩:=ZHz (k:=.int k) (G:=G) k 0 v none;have hx':Bg (gV 2) Up (Cg 0 k) [some (.int v),some (.int k),none] G=.nx [some (.int (offV k v)),some (.int k),x'] G:=hx;unfold Rg Sx;rw [Be];have hr:inR (k:Int):=Gr (by lia) (by lia);by_cases h0:0<=v
  ·have h1:¬v < 1000000000000000000:=λz=>h ⟨h0,z⟩
   simp [h0,h1,hr,hx',Bd]
  ·simp [h0,hr,hx',Bd]
theorem ZHB (hl:ns.length<=63) (hk:k<=1000):∃v:Int,∀G,Bc [.fl (ns.map D.int),.int k] G=.ok (.int v) G:=by
 obtain ⟨b,ht⟩:=ZIy (ns:=ns);have hd:((k:Int) / 14)=((k / 14:Nat):Int):=by lia
 have hm:((k:Int) % 14)=((k % 14:Nat):Int):=by lia
 cases b with
 | true=>
  by_cases h:1 + k / 14 < ns.length
  ·obtain ⟨r,hr,ho⟩:=ZI7 (v:=ns[1 + k / 14]) (k:=k % 14) (by lia);refine ⟨r,λG=> ?_⟩;unfold Bc Ds;rw [Be];have a1:atI (ns.map D.int) (1 + (k:Int) / 14)=some (.int ns[1 + k / 14]):=Ex (k:=1 + k / 14) (by lia) (by rw [List.getElem?_map,List.getElem?_eq_getElem h];rfl);have hc:(1 + (k:Int) / 14) < ns.length:=by lia
   simp [ht,hc,a1];rw [hm,ho];simp [Bd]
  ·obtain ⟨r,hr,ho⟩:=ZI7 (v:=0) (k:=k % 14) (by lia);refine ⟨r,λG=> ?_⟩;unfold Bc Ds;rw [Be];have hc:¬(1 + (k:Int) / 14) < ns.length:=by lia
   simp [ht,hc];rw [hm,ho];simp [Bd]
 | false=>
  by_cases h:k < ns.length
  ·refine ⟨ns[k],λG=> ?_⟩;unfold Bc Ds;rw [Be];have a1:atI (ns.map D.int) (k:Int)=some (.int ns[k]):=Ex (k:=k) rfl (by rw [List.getElem?_map,List.getElem?_eq_getElem h];rfl);simp [ht,h,a1,Bd]
  ·have m0:∀G,Bh (.int k) (.int k) G=R.ok (.int ((k:Int) * k)) G:=λG=>Jq (by lia) (by lia)
   by_cases h0:0 < ns.length
   ·have hi:k % ns.length < ns.length:=Nat.mod_lt _ h0;refine ⟨48271 * ((k:Int) * k + 7 * ns.length) % 2147483647 + ns[k % ns.length] * 69621 % 2147483629,λG=> ?_⟩;unfold Bc Ds;rw [Be];have a1:atI (ns.map D.int) ((k:Int) % ns.length)=some (.int ns[k % ns.length]):=Ex (k:=k % ns.length) (by simp) (by rw [List.getElem?_map,List.getElem?_eq_getElem hi];rfl);simp [ht,h,m0,h0,a1,Bd]
   ·have e:ns= []:=List.eq_nil_of_length_eq_zero (by lia);subst e;refine ⟨48271 * ((k:Int) * k + 7 * 0) % 2147483647,λG=> ?_⟩;unfold Bc Ds;rw [Be];have ht':∀G,Mi [.fl []] G=.ok (.bl false) G:=ht;have hk0:¬(k:Int) < 0:=by lia
    simp [ht',hk0,m0,Bd]
theorem cells (hl:ns.length<=63):∃f:Nat->Int,∀k:Nat,k<=1000->∀G,Bc [.fl (ns.map D.int),.int k] G=.ok (.int (f k)) G:=by refine ⟨λk=>if h:k<=1000 then (ZHB hl h).choose else 0,λk hk=> ?_⟩;simp only [dif_pos hk];exact (ZHB hl hk).choose_spec
structure Row where
 down:Option Nat
 water:Int
 need:Int
 rank:Int
variable {rs:List Row}
noncomputable def dnD:Option Nat->D
 | none=>.non
 | some d=>.int d
noncomputable def Row.enc (r:Row):D:=.tup [dnD r.down,.int r.water,.int r.need,.int r.rank]
@[simp] theorem ZVI {n:Nat} {o:Option Nat}:bel n (dnD o)=true:=by cases o <;> rfl
@[simp] theorem ZKp {n:Nat} {r:Row}:bel n r.enc=true:=by simp [Row.enc]
@[simp] theorem ZUQ {n:Nat} :bels n (rs.map Row.enc)=true:=Gm λr _=>ZKp
@[simp] theorem ZGe {n:Nat} :bels n (xs.map D.int)=true:=Gm λr _=>rfl
structure Fine (k n:Nat) (r:Row):Prop where
 dn:∀d,r.down=some d->k < d/\d < n
 w0:0<=r.water
 n0:0<=r.need
 r0:0<=r.rank
noncomputable def Reach (rs:List Row):Prop:=∀k r,rs[k]? =some r->Fine k rs.length r
noncomputable def tab (n:Nat) (F:Nat->Int):List D:=(List.range n).map λi=>D.int (F i)
noncomputable def fset (F:Nat->Int) (d:Nat) (v:Int):Nat->Int:=λi=>if i=d then v else F i
@[simp] theorem ZUn {n:Nat} :(tab n F).length=n:=by simp [tab]
@[simp] theorem Q5 {n:Nat} :bels m (tab n F)=true:=Gm λ_ _=>rfl
theorem Lk {n:Nat} (h:i < n):(tab n F)[i]? =some (.int (F i)):=by unfold tab;rw [List.getElem?_map,List.getElem?_range h];rfl
theorem Hn {n:Nat} (h:i < n):atI (tab n F) (i:Int)=some (.int (F i)):=Ex rfl (Lk h)
theorem Q3 {n:Nat} {v:Int}:(tab n F).set d (.int v)=tab n (fset F d v):=by
 refine List.ext_getElem? λi=> ?_
 by_cases hi:i < n
 ·by_cases e:d=i
  ·subst e;rw [List.getElem?_set_self (by simpa using hi),Lk hi];simp [fset]
  ·rw [List.getElem?_set_ne e,Lk hi,Lk hi];have:i≠d:=λz=>e z.symm
   simp [fset,this]
 ·rw [List.getElem?_eq_none (by simp;lia),List.getElem?_eq_none (by simp;lia)]
theorem ZHl {n:Nat} {F':Nat->Int} (h:∀i,i < n->F i=F' i):tab n F=tab n F':=by
 unfold tab;refine List.map_congr_left λi hi=> ?_
 rw [h i (List.mem_range.mp hi)]
noncomputable def col (g:Row->Int) (rs:List Row) (i:Nat):Int:=match rs[i]? with
 | some r=>g r
 | none=>0
theorem ZUt {g:Row->Int} :rs.map (λr=>D.int (g r))=tab rs.length (col g rs):=by
 refine List.ext_getElem? λi=> ?_
 by_cases hi:i < rs.length
 ·rw [Lk hi,List.getElem?_map];simp [col,List.getElem?_eq_getElem hi]
 ·rw [List.getElem?_eq_none (by simp;lia),List.getElem?_eq_none (by simp;lia)]
noncomputable def Bw (rs:List Row) (i:Nat):Option Nat:=rs[i]?.bind Row.down
theorem Jc (h:Reach rs) (e:Bw rs k=some d):k < d/\d < rs.length:=by
 unfold Bw at e;cases hr:rs[k]? with
 | none=>rw [hr] at e;cases e
 | some r=>rw [hr] at e;exact (h k r hr).dn d e
theorem ZBa (hk:k < rs.length):Bw rs k=rs[k].down:=by unfold Bw;rw [List.getElem?_eq_getElem hk];rfl
theorem ZHM (hk:¬k < rs.length):Bw rs k=none:=by unfold Bw;rw [List.getElem?_eq_none (by lia)];rfl
noncomputable def gstep (F:Nat->Int) (k:Nat) (o:Option Nat):Nat->Int:=match o with
 | none=>F
 | some d=>fset F d (F d + F k)
noncomputable def gat (rs:List Row):Nat->Nat->(Nat->Int)->Nat->Int
 | 0,_,F=>F
 | m + 1,k,F=>gat rs m (k + 1) (gstep F k (Bw rs k))
noncomputable abbrev gath (rs:List Row) (F:Nat->Int):Nat->Int:=gat rs rs.length 0 F
theorem Rw:∀(m k:Nat) (a b:Nat->Int),gat rs m k (λi=>a i - b i)=λi=>gat rs m k a i - gat rs m k b i
 | 0,k,a,b=>rfl
 | m + 1,k,a,b=>by
  unfold gat;have e:gstep (λi=>a i - b i) k (Bw rs k)=λi=>gstep a k (Bw rs k) i - gstep b k (Bw rs k) i:=by
   cases Bw rs k with
   | none=>rfl
   | some d=>
    funext i;simp only [gstep,fset]
    split <;> lia
  rw [e,Rw m (k + 1)]
theorem ZCj (hk:k < rs.length):atI (rs.map Row.enc) (k:Int)=some (.tup [dnD (Bw rs k),.int (col Row.water rs k),.int (col Row.need rs k),.int (col Row.rank rs k)]):=
 Ex rfl (by rw [List.getElem?_map,ZBa hk];simp [col,List.getElem?_eq_getElem hk,Row.enc])
theorem ZIa (hR:Reach rs) {t:D} {G:DH}:∀(m k:Nat) (F:Nat->Int) (x y:Option D),k + m=rs.length->∃x' y',
  Bg (Cd 2 (Ar (gV 4) (Ar (gV 3) Cj))) N5 ((Dy (rs.map Row.enc)).drop k) [some (.fl (rs.map Row.enc)),some t,some (.ref G.length),x,y] (G++ [.lst (tab rs.length F)])=
   .nx [some (.fl (rs.map Row.enc)),some t,some (.ref G.length),x',y'] (G++ [.lst (tab rs.length (gat rs m k F))])
 | 0,k,F,x,y,h=>⟨x,y,by rw [List.drop_of_length_le (by rw [K9];simp;lia),Ec];rfl⟩
 | m + 1,k,F,x,y,h=>by
  have hk:k < rs.length:=by lia
  have e0:(Dy (rs.map Row.enc)).drop k=.tup [.int k,rs[k].enc]::(Dy (rs.map Row.enc)).drop (k + 1):=by rw [List.drop_eq_getElem_cons (by rw [K9];simpa using hk)];simp [Dy]
  obtain ⟨x',y',ih⟩:=ZIa hR (t:=t) (G:=G) m (k + 1) (gstep F k (Bw rs k)) (some rs[k].enc) (some (.int k)) (by lia);refine ⟨x',y',?_⟩;have hb:N5 [some (.fl (rs.map Row.enc)),some t,some (.ref G.length),some rs[k].enc,some (.int k)] (G++ [.lst (tab rs.length F)])=
    .nx [some (.fl (rs.map Row.enc)),some t,some (.ref G.length),some rs[k].enc,some (.int k)] (G++ [.lst (tab rs.length (gstep F k (Bw rs k)))]):=by
   unfold N5;cases hd:Bw rs k with
   | none=>
    have:rs[k].down=none:=by rw [<-ZBa hk];exact hd
    simp [Row.enc,this,dnD,gstep]
   | some d=>
    have e:rs[k].down=some d:=by rw [<-ZBa hk];exact hd
    have hdn:=Jc hR hd;have g0:(G++ [DO.lst (tab rs.length F)])[G.length]? =some (.lst (tab rs.length F)):=by simp
    simp [Row.enc,e,dnD,gstep,Vi g0 (Hn hdn.2),Di,Hn hk,Eg,Jd,hdn.2,Q3]
  rw [e0,Dk];simp [Do,hb];exact ih
noncomputable def Lz (rs:List Row) (i:Nat):D:=.tup [dnD (Bw rs i),.int (col Row.water rs i),.int (col Row.need rs i),.int (col Row.rank rs i)]
theorem ZHT:rs.map Row.enc=(List.range rs.length).map (Lz rs):=by
 refine List.ext_getElem? λi=> ?_
 by_cases hi:i < rs.length
 ·rw [List.getElem?_map,List.getElem?_map,List.getElem?_range hi,List.getElem?_eq_getElem hi];simp [Lz,Row.enc,ZBa hi,col,List.getElem?_eq_getElem hi]
 ·rw [List.getElem?_eq_none (by simp;lia),List.getElem?_eq_none (by simp;lia)]
theorem ZFm (hR:Reach rs) (hl:rs.length<=40) {t:D} (ht:Bs t G=some (tab rs.length T)):Q0 [.fl (rs.map Row.enc),t] G=.ok (.ref G.length) (G++ [.lst (tab rs.length (gath rs λi=>col Row.water rs i - T i))]):=by
 obtain ⟨x',y',hL⟩:=ZIa hR (t:=t) (G:=G) rs.length 0 (λi=>col Row.water rs i - T i) none none (by lia);have hz:∀j,Hi [.fl (rs.map Row.enc),t] j G=some ((List.range rs.length).map λi=>D.tup [Lz rs i,.int (T i)])[j]? :=λj=>by
  rw [ZGX ZHL ht,Pq,ZHT,tab,List.zip_map',List.map_map]
  rfl
 let F:D->Option D:=λd=>match d with
  | .tup [.tup [_,.int w,_,_],.int v]=>some (.int (w - v))
  | _=>none
 have hc:Dz (Hi [.fl (rs.map Row.enc),t]) (Cd 2 (Ar (gV 0) (Ar (gV 1) Cj))) Ci ZCq (Bf 2 [] [some (.fl (rs.map Row.enc)),some t,none,none,none]) rs.length 0 G=.ok (tab rs.length λi=>col Row.water rs i - T i) G:=by
  rw [ZAk (F:=F) hz (λx hx=> ?_) (by simp)]
  ·congr 1
   rw [List.filterMap_map];show (List.range rs.length).filterMap (λi=>some (D.int (col Row.water rs i - T i)))=_;rw [List.filterMap_eq_map']
   rfl
  ·obtain ⟨i,_,rfl⟩:=List.mem_map.mp hx;refine ⟨[some (Lz rs i),some (.int (T i))],by simp [Bf],.inr ⟨rfl,.int (col Row.water rs i - T i),?_,rfl⟩⟩;unfold ZCq;simp [Lz]
 have hl2:rs.length<=1000000:=by lia
 unfold Q0 S7;rw [Be];have hL':Bg (Cd 2 (Ar (gV 4) (Ar (gV 3) Cj))) N5 (Dy (rs.map Row.enc)) [some (.fl (rs.map Row.enc)),some t,some (.ref G.length),none,none] (G++ [.lst (tab rs.length λi=>col Row.water rs i - T i)])=_:=hL;have hcf:Ef (Gd 0 (.fl (rs.map Row.enc))) (Cd 2 (Ar (gV 4) (Ar (gV 3) Cj))) N5 rs.length 0 [some (.fl (rs.map Row.enc)),some t,some (.ref G.length),none,none] (G++ [.lst (tab rs.length λi=>col Row.water rs i - T i)])=.nx [some (.fl (rs.map Row.enc)),some t,some (.ref G.length),x',y'] (G++ [.lst (tab rs.length (gath rs λi=>col Row.water rs i - T i))]):=by
  have:=ZOV (S:= [some (.fl (rs.map Row.enc)),some t,some (.ref G.length),none,none]) (G:=G++ [.lst (tab rs.length λi=>col Row.water rs i - T i)]) (g:=Cd 2 (Ar (gV 4) (Ar (gV 3) Cj))) (b:=N5) (xs:=rs.map Row.enc);rw [List.length_map] at this;rw [this];exact hL'
 simp [ZGH (ZHL (xs:=rs.map Row.enc)) ht,hc,Ao,hl2,hcf,Es]
theorem ZJT {g:Row->Int} (h:∀r∈rs,0<=g r) (k:Nat):0<=col g rs k:=by
 unfold col;split
 ·rename_i r hr;exact h r (List.mem_of_getElem? hr)
 ·exact Int.le_refl _
theorem Reach.need (h:Reach rs) (k:Nat):0<=col Row.need rs k:=ZJT (λr hr=>by obtain ⟨i,hi,rfl⟩:=List.getElem_of_mem hr;exact (h i _ (List.getElem?_eq_getElem hi)).n0) k
theorem Reach.water (h:Reach rs) (k:Nat):0<=col Row.water rs k:=ZJT (λr hr=>by obtain ⟨i,hi,rfl⟩:=List.getElem_of_mem hr;exact (h i _ (List.getElem?_eq_getElem hi)).w0) k
theorem ZHS (h:bels (G.length + 1) ds=true):freeze (G++ [A]) (.ok (.ref (G.length + 1)) (G++A:: .lst ds::L))=.ok (.fl ds) (G++ [A]):=by have:=Gn (G:=G++ [A]) (ds:=ds) (L:=L) (by simpa using h);simpa using this
theorem ZMS (h:bels (G.length + 1) ds=true):tidy (G++ [A]) (.ok (.ref (G.length + 1)) (G++A:: .lst ds::L))=.ok (.ref (G.length + 1)) (G++ [A,.lst ds]):=by have:=Es (G:=G++ [A]) (ds:=ds) (L:=L) (by simpa using h);simpa using this
theorem ZEJ {B:DO} (h:bels (G.length + 2) ds=true):freeze (G++ [A,B]) (.ok (.ref (G.length + 2)) (G++A::B:: .lst ds::L))=.ok (.fl ds) (G++ [A,B]):=by have:=Gn (G:=G++ [A,B]) (ds:=ds) (L:=L) (by simpa using h);simpa using this
noncomputable def Ma (rs:List Row):Nat->Nat->List Nat
 | 0,k=> [k]
 | m + 1,k=>k::(match Bw rs k with
  | none=> []
  | some d=>Ma rs m d)
noncomputable def way (rs:List Row) (k:Nat):List Nat:=Ma rs rs.length k
theorem ZIo (hR:Reach rs):∀(m m' k:Nat),rs.length<=m + k + 1->rs.length<=m' + k + 1->Ma rs m k=Ma rs m' k
 | 0,m',k,h,h'=>by
  have hn:Bw rs k=none:=by
   cases hd:Bw rs k with
   | none=>rfl
   | some d=>have:=Jc hR hd;lia
  cases m' with
  | zero=>rfl
  | succ m'=>simp [Ma,hn]
 | m + 1,0,k,h,h'=>by
  have hn:Bw rs k=none:=by
   cases hd:Bw rs k with
   | none=>rfl
   | some d=>have:=Jc hR hd;lia
  simp [Ma,hn]
 | m + 1,m' + 1,k,h,h'=>by
  cases hd:Bw rs k with
  | none=>simp [Ma,hd]
  | some d=>
   have:=Jc hR hd;simp [Ma,hd,ZIo hR m m' d (by lia) (by lia)]
noncomputable def Jx (rs:List Row):Option Nat->List Nat
 | none=> []
 | some d=>way rs d
theorem J8 (hR:Reach rs) (k:Nat):way rs k=k::Jx rs (Bw rs k):=by
 unfold way;rw [ZIo hR rs.length (rs.length + 1) k (by lia) (by lia)];show k::_=_;cases hd:Bw rs k with
 | none=>rfl
 | some d=>rfl
@[simp] theorem ZUH:dnD (some d)=.int d:=id rfl
noncomputable def Aq (ws:List Nat):List D:=ws.map λ(i:Nat)=>D.int (i:Int)
@[simp] theorem ZEC:bels m (Aq ws)=true:=Gm λ_ _=>rfl
@[simp] theorem ZUb:(Aq ws).length=ws.length:=by simp [Aq]
theorem ZFz (hR:Reach rs) (hl:rs.length<=40) :∀(m:Nat) (o:Option Nat) (acc:List Nat),0 < m->(∀d,o=some d->d < rs.length/\rs.length - d < m/\acc.length + (rs.length - d)<=100)->
  sWh Mz Tz m [some (.fl (rs.map Row.enc)),x,some (.ref G.length),some (dnD o)] (G++ [.lst (Aq acc)])=.nx [some (.fl (rs.map Row.enc)),x,some (.ref G.length),some .non] (G++ [.lst (Aq (acc++Jx rs o))])
 | 0,o,acc,h0,h=>by lia
 | m + 1,none,acc,h0,h=>by
  have ht:Mz [some (.fl (rs.map Row.enc)),x,some (.ref G.length),some (dnD none)] (G++ [.lst (Aq acc)])=.ok false (G++ [.lst (Aq acc)]):=by unfold Mz;simp [dnD]
  unfold sWh;rw [ht];simp [Jx,dnD]
 | m + 1,some d,acc,h0,h=>by
  obtain ⟨h1,h2,h3⟩:=h d rfl;have ht:Mz [some (.fl (rs.map Row.enc)),x,some (.ref G.length),some (dnD (some d))] (G++ [.lst (Aq acc)])=.ok true (G++ [.lst (Aq acc)]):=by unfold Mz;simp [dnD]
  have hla:acc.length < 1000000:=by lia
  have hb:Tz [some (.fl (rs.map Row.enc)),x,some (.ref G.length),some (dnD (some d))] (G++ [.lst (Aq acc)])=.nx [some (.fl (rs.map Row.enc)),x,some (.ref G.length),some (dnD (Bw rs d))] (G++ [.lst (Aq (acc++ [d]))]):=by unfold Tz;simp [Di,Eg,hla,ZCj h1,Aq]
  unfold sWh;rw [ht];simp only [R.Dj,if_true,hb,Dt];rw [ZFz hR hl m (Bw rs d) (acc++ [d]) (by lia) (λe he=>by have:=Jc hR he;simp;lia)]
  have:Jx rs (some d)=d::Jx rs (Bw rs d):=J8 hR d;rw [this];simp
theorem ZPp (hR:Reach rs) (hl:rs.length<=40) (hk:k < rs.length) (G:DH):Xe [.fl (rs.map Row.enc),.int k] G=.ok (.ref G.length) (G++ [.lst (Aq (way rs k))]):=by
 have hL:=ZFz hR hl (x:=some (.int k)) (G:=G) fuel (Bw rs k) [k] (by unfold fuel;lia) (λd hd=>by have:=Jc hR hd;unfold fuel;simp;lia)
 have hL':sWh Mz Tz fuel [some (.fl (rs.map Row.enc)),some (.int k),some (.ref G.length),some (dnD (Bw rs k))] (G++ [.lst [.int k]])=_:=hL;rw [J8 hR];unfold Xe W7;rw [Be];simp [Ao,Es,ZCj hk,hL']
noncomputable def ltK (rs:List Row) (i j:Nat):Bool:=decide (col Row.rank rs i < col Row.rank rs j∨(col Row.rank rs i=col Row.rank rs j/\i < j))
theorem S9 (rs:List Row):WO (ltK rs) where
 asy:=λi j h=>by simp only [ltK,decide_eq_true_eq,decide_eq_false_iff_not] at h ⊢;lia
 neg:=λi j k h=>by simp only [ltK,decide_eq_true_eq] at h ⊢;lia
theorem ZSD (h:ltK rs j i=false) (hne:i≠j):ltK rs i j=true:=by simp only [ltK,decide_eq_true_eq,decide_eq_false_iff_not] at h ⊢;lia
noncomputable def ord (rs:List Row):List Nat:=if rs.length < 2 then List.range rs.length else (Bv (ltK rs) (PySem.W.kas_sort rs.length)).toList
theorem Qk (rs:List Row):(ord rs).Perm (List.range rs.length):=by
 unfold ord;split
 ·exact .refl _
 ·exact (ZDt (S9 rs) (by lia)).1
theorem ZQd (rs:List Row):(ord rs).Pairwise λi j=>ltK rs i j=true:=by
 have hp:=Qk rs;unfold ord at hp ⊢;split
 ·rename_i h
  rcases (by lia:rs.length=0∨rs.length=1) with e | e <;> rw [e] <;> simp [List.range_succ]
 ·rename_i h;rw [if_neg h] at hp;have hs:=(ZDt (S9 rs) (n:=rs.length) (by lia)).2;have nd:(Bv (ltK rs) (PySem.W.kas_sort rs.length)).toList.Nodup:=hp.nodup_iff.mpr List.nodup_range;have hl:(Bv (ltK rs) (PySem.W.kas_sort rs.length)).toList.length=rs.length:=by rw [hp.length_eq];simp
  generalize Bv (ltK rs) (PySem.W.kas_sort rs.length)=p at hs nd hl;rw [List.pairwise_iff_getElem];intro i j hi hj hij;have hz:p.size=rs.length:=by simpa using hl
  have hi':i < p.size:=by simpa using hi
  have hj':j < p.size:=by simpa using hj
  have e1:pt p i=p[i]:=by simp [pt,Array.getD,hi']
  have e2:pt p j=p[j]:=by simp [pt,Array.getD,hj']
  have h1:=hs i j (Nat.le_of_lt hij) (by lia);rw [e1,e2] at h1;have hne:p.toList[i]≠p.toList[j]:=λz=>by have:=(List.pairwise_iff_getElem.mp nd) i j hi hj hij;exact this z
  simp only [Array.getElem_toList] at hne ⊢;exact ZSD h1 hne
theorem V4 (h:k∈ord rs):k < rs.length:=by have:=(Qk rs).mem_iff.mp h;simpa using this
theorem ZIH (rs:List Row):(ord rs).length=rs.length:=by rw [(Qk rs).length_eq];simp
theorem ZJX {n:Nat} {lt lt':Nat->Nat->Bool} (h:∀i j,i < n->j < n->lt i j=lt' i j) {P:α->Prop}:∀{t:PySem.W.KasT α},Safe n P t->Bv lt t=Bv lt' t
 | .ret _,_=>rfl
 | .ask i j k,hs=>by show Bv lt (k (lt i j))=Bv lt' (k (lt' i j));rw [h i j hs.1 hs.2.1];exact ZJX h (hs.2.2 _)
noncomputable def Gq (rs:List Row) (k:Nat):D:=.tup [.int (col Row.rank rs k),.int k]
theorem ZFs (i j:Nat):ltD (Gq rs i) (Gq rs j)=some (ltK rs i j):=by
 have e:ltD (Gq rs i) (Gq rs j)=if col Row.rank rs i=col Row.rank rs j then (if (i:Int)=j then some false else some (decide ((i:Int) < j))) else some (decide (col Row.rank rs i < col Row.rank rs j)):=rfl
 rw [e];by_cases h:col Row.rank rs i=col Row.rank rs j
 ·rw [if_pos h];by_cases h2:(i:Int)=j
  ·rw [if_pos h2]
   congr 1
   simp only [ltK]
   symm
   simp only [decide_eq_false_iff_not];lia
  ·rw [if_neg h2]
   congr 1
   simp only [ltK];rw [decide_eq_decide];lia
 ·rw [if_neg h]
  congr 1
  simp only [ltK];rw [decide_eq_decide];lia
noncomputable def Ha (rs:List Row):List D:=(List.range rs.length).map (Gq rs)
theorem ZEs (h:i < rs.length):(Ha rs).getD i .non=Gq rs i:=by unfold Ha;rw [List.getD_eq_getElem?_getD,List.getElem?_map,List.getElem?_range h];rfl
theorem ZID (rs:List Row):M5 (Ha rs)=(ord rs).map (Gq rs):=by
 have hl:(Ha rs).length=rs.length:=by simp [Ha]
 unfold M5 ord;rw [hl];split
 ·rfl
 ·rename_i h;have e:Bv (ltI (Ha rs)) (PySem.W.kas_sort rs.length)=Bv (ltK rs) (PySem.W.kas_sort rs.length):=
   ZJX (n:=rs.length) (λi j hi hj=>by unfold ltI;rw [ZEs hi,ZEs hj,ZFs];rfl) (ZL5 (by lia))
  rw [e];refine List.map_congr_left λi hi=> ?_
  have hp:=(ZDt (S9 rs) (n:=rs.length) (by lia)).1;exact ZEs (by simpa using hp.mem_iff.mp hi)
theorem ZQ1 (rs:List Row):Px (Ha rs)=true:=by
 unfold Px Ha;rw [Bool.and_eq_true,Bool.or_eq_true];refine ⟨.inl ?_,?_⟩
 ·rw [List.all_eq_true];intro x hx;obtain ⟨i,_,rfl⟩:=List.mem_map.mp hx
  rfl
 ·rw [List.all_eq_true];intro x hx;rw [List.all_eq_true];intro y hy;obtain ⟨i,_,rfl⟩:=List.mem_map.mp hx;obtain ⟨j,_,rfl⟩:=List.mem_map.mp hy;rw [ZFs];rfl
@[simp] theorem ZOu:bels m (ws.map (Gq rs))=true:=Gm λ_ _=>by simp [Gq]
theorem ZRo (hl:rs.length<=40) (G:DH):ZBU [.fl (rs.map Row.enc)] G=.ok (.ref G.length) (G++ [.lst (Aq (ord rs))]):=by
 have he:∀j,Gd 0 (.fl (rs.map Row.enc)) j G=some ((List.range rs.length).map λ(k:Nat)=>D.tup [.int (k:Int),Lz rs k])[j]? :=λj=>by
  rw [ZB1,Dy,ZHT,List.zipIdx_map,List.map_map]
  congr 2
  refine List.ext_getElem (by simp) λi h1 h2=>by simp
 let F:D->Option D:=λd=>match d with
  | .tup [.int k,.tup [_,_,_,.int r]]=>some (.tup [.int r,.int k])
  | _=>none
 have hc:Dz (Gd 0 (.fl (rs.map Row.enc))) (Cd 2 (Ar (gV 0) (Ar (gV 1) Cj))) Ci ZDS (Bf 2 [] [some (.fl (rs.map Row.enc)),none]) rs.length 0 G=.ok (Ha rs) G:=by
  rw [ZAk (F:=F) he (λx hx=> ?_) (by simp)]
  ·congr 1
   rw [List.filterMap_map];show (List.range rs.length).filterMap (λi=>some (Gq rs i))=_;rw [List.filterMap_eq_map']
   rfl
  ·obtain ⟨i,_,rfl⟩:=List.mem_map.mp hx;refine ⟨[some (.int i),some (Lz rs i)],by simp [Bf],.inr ⟨rfl,Gq rs i,?_,rfl⟩⟩;unfold ZDS;simp [Lz,Gq,Bo]
 let F2:D->Option D:=λd=>match d with
  | .tup [_,k]=>some k
  | _=>none
 have hc2:∀S,Eb (Cd 2 (Ar (gV 0) (Ar (gV 1) Cj))) Ci ZCV (Bf 2 [] S) ((ord rs).map (Gq rs)) G=.ok (Aq (ord rs)) G:=λS=>by
  rw [Yu (F:=F2) (λx hx=> ?_)]
  ·congr 1
   rw [List.filterMap_map];show (ord rs).filterMap (λ(i:Nat)=>some (D.int (i:Int)))=_;rw [List.filterMap_eq_map']
   rfl
  ·obtain ⟨i,_,rfl⟩:=List.mem_map.mp hx;refine ⟨[some (.int (col Row.rank rs i)),some (.int i)],by simp [Bf,Gq],.inr ⟨rfl,.int i,?_,rfl⟩⟩;unfold ZCV;simp
 have hkl:(Ha rs).length=rs.length:=by simp [Ha]
 have hl2:rs.length<=1000000:=by lia
 have hs:∀G,Tf [.fl (Ha rs)] G=.ok (.ref G.length) (G++ [.lst ((ord rs).map (Gq rs))]):=λG=>by have h1:Ho (.fl (Ha rs)) G=some (Ha rs):=rfl;simp only [Tf,h1];rw [if_pos ⟨⟨by rw [hkl];lia,by rw [ZID];simp [ZIH];lia⟩,ZQ1 rs⟩,ZID]
 have hbk:bels G.length (Ha rs)=true:=ZOu;have hol:=ZIH rs;have hl3:(ord rs).length<=1000000:=by lia
 unfold ZBU Xr;rw [Be];simp [hc,Ao,hkl,hl2,Gn,hbk,hs,hc2,hl3,Es]
noncomputable def wmin (P:Nat->Int):List Nat->Int
 | []=>0
 | k::r=>(r.map P).foldl min (P k)
theorem ZKa (h:b∈ws):wmin P ws<=P b:=by
 cases ws with
 | nil=>cases h
 | cons k r=>
  obtain ⟨h1,h2,_⟩:=ZA3 (r.map P) (P k);rcases List.mem_cons.mp h with rfl | h
  ·exact h1
  ·exact h2 _ (List.mem_map.mpr ⟨b,h,rfl⟩)
theorem ZKu (h:ws≠ []):∃b∈ws,wmin P ws=P b:=by
 cases ws with
 | nil=>exact absurd rfl h
 | cons k r=>
  obtain ⟨_,_,h3⟩:=ZA3 (r.map P) (P k);rcases h3 with h3 | h3
  ·exact ⟨k,List.mem_cons_self,h3⟩
  ·obtain ⟨b,hb,e⟩:=List.mem_map.mp h3;exact ⟨b,List.mem_cons_of_mem _ hb,e.symm⟩
noncomputable def J9 (P:Nat->Int) (ws:List Nat) (t:Int):Nat->Int:=λi=>if i∈ws then P i - t else P i
noncomputable def V9 (P:Nat->Int) (t:Int) (ws:List Nat):Nat->Int:=ws.foldl (λP b=>fset P b (P b - t)) P
theorem ZHw:∀{ws:List Nat} {P:Nat->Int},ws.Nodup->V9 P t ws=J9 P ws t
 | [],P,_=>by funext i;simp [V9,J9]
 | b::ws,P,h=>by
  obtain ⟨h1,h2⟩:=List.nodup_cons.mp h;show V9 (fset P b (P b - t)) t ws=_;rw [ZHw h2];funext i;by_cases e:i=b
  ·subst e;simp [J9,fset,h1]
  ·simp [J9,fset,e]
theorem ZIr (hR:Reach rs):∀(m k:Nat),rs.length<=m + k->k < rs.length->∀b∈way rs k,k<=b/\b < rs.length
 | 0,k,h,hk,b,hb=>by lia
 | m + 1,k,h,hk,b,hb=>by
  rw [J8 hR] at hb;rcases List.mem_cons.mp hb with rfl | hb
  ·lia
  ·cases hd:Bw rs k with
   | none=>rw [hd] at hb;cases hb
   | some d=>
    have:=Jc hR hd;rw [hd] at hb;have:=ZIr hR m d (by lia) (by lia) b hb;lia
theorem Yo (hR:Reach rs) (hk:k < rs.length) (hb:b∈way rs k):k<=b/\b < rs.length:=ZIr hR rs.length k (by lia) hk b hb
theorem ZH2 (hR:Reach rs):∀(m k:Nat),rs.length<=m + k->(way rs k).Nodup
 | 0,k,h=>by rw [J8 hR,ZHM (by lia)];simp [Jx]
 | m + 1,k,h=>by
  rw [J8 hR];cases hd:Bw rs k with
  | none=>simp [Jx]
  | some d=>
   have hlt:=Jc hR hd;refine List.nodup_cons.mpr ⟨λhm=> ?_,ZH2 hR m d (by lia)⟩;have:=Yo hR hlt.2 hm;lia
theorem ZOS (hR:Reach rs) (k:Nat):(way rs k).Nodup:=ZH2 hR rs.length k (by lia)
theorem ZGP (hR:Reach rs):∀(m k:Nat),rs.length<=m + k->(way rs k).length<=m + 1
 | 0,k,h=>by rw [J8 hR,ZHM (by lia)];simp [Jx]
 | m + 1,k,h=>by
  rw [J8 hR];cases hd:Bw rs k with
  | none=>simp [Jx]
  | some d=>
   have hlt:=Jc hR hd;have:=ZGP hR m d (by lia);show (way rs d).length + 1<=_;lia
noncomputable def take1 (rs:List Row) (P:Nat->Int) (k:Nat):Int:=min (col Row.need rs k) (wmin P (way rs k))
noncomputable def srv (rs:List Row):List Nat->(Nat->Int)->(Nat->Int)->(Nat->Int)×(Nat->Int)
 | [],P,T=>(P,T)
 | k::ks,P,T=>srv rs ks (J9 P (way rs k) (take1 rs P k)) (fset T k (take1 rs P k))
noncomputable def shr (rs:List Row):Nat->Int:=(srv rs (ord rs) (gath rs (col Row.water rs)) λ_=>0).2
noncomputable def pD (P:Nat->Int) (ws:List Nat):List D:=ws.map λi=>D.int (P i)
@[simp] theorem ZUj:(pD P ws).length=ws.length:=by simp [pD]
@[simp] theorem ZLC:bels m (pD P ws)=true:=Gm λ_ _=>rfl
theorem ZFk {a b c d e:Option D} {t:Int} {A:DO} {G:DH}:∀(ws:List Nat) (P:Nat->Int) (x:Option D),(∀b∈ws,b < rs.length)->∃x',
  Bg (gV 6) Yd (Aq ws) [a,b,some (.ref (G.length + 1)),c,d,some (.int t),x] (G++ [A,.lst (tab rs.length P)])=.nx [a,b,some (.ref (G.length + 1)),c,d,some (.int t),x'] (G++ [A,.lst (tab rs.length (V9 P t ws))])
 | [],P,x,h=>⟨x,rfl⟩
 | w::ws,P,x,h=>by
  obtain ⟨x',ih⟩:=ZFk (a:=a) (b:=b) (c:=c) (d:=d) (e:=e) (t:=t) (A:=A) (G:=G) ws (fset P w (P w - t)) (some (.int w)) λb hb=>h b (List.mem_cons_of_mem _ hb)
  refine ⟨x',?_⟩;have hw:=h w List.mem_cons_self;have g0:(G++ [A,DO.lst (tab rs.length P)])[G.length + 1]? =some (.lst (tab rs.length P)):=ZAS _ 1;have hse:∀(L:DH) o,(G++L).set (G.length + 1) o=G++L.set 1 o:=λL o=>ZET L 1 o
  have hb:Yd [a,b,some (.ref (G.length + 1)),c,d,some (.int t),some (.int w)] (G++ [A,.lst (tab rs.length P)])=.nx [a,b,some (.ref (G.length + 1)),c,d,some (.int t),some (.int w)] (G++ [A,.lst (tab rs.length (fset P w (P w - t)))]):=by unfold Yd;simp [Vi g0 (Hn hw),g0,hse,Jd,hw,Q3]
  show Bg _ _ (.int w::Aq ws) _ _=_;rw [Dk];simp only [Do,R.Dj,List.set,hb,Dt];exact ih
theorem ZJh {rs:List Row} (hR:Reach rs) (hl:rs.length<=40) {G:DH}:∀(ks:List Nat) (P T:Nat->Int) (x y z w:Option D),(∀k∈ks,k < rs.length)->∃x' y' z' w',
  Bg (gV 3) T8 (Aq ks) [some (.fl (rs.map Row.enc)),some (.ref G.length),some (.ref (G.length + 1)),x,y,z,w] (G++ [.lst (tab rs.length T),.lst (tab rs.length P)])=
   .nx [some (.fl (rs.map Row.enc)),some (.ref G.length),some (.ref (G.length + 1)),x',y',z',w'] (G++ [.lst (tab rs.length (srv rs ks P T).2),.lst (tab rs.length (srv rs ks P T).1)])
 | [],P,T,x,y,z,w,h=>⟨x,y,z,w,rfl⟩
 | k::ks,P,T,x,y,z,w,h=>by
  have hk:=h k List.mem_cons_self;have hwl:∀b∈way rs k,b < rs.length:=λb hb=>(Yo hR hk hb).2
  obtain ⟨w1,hsub⟩:=ZFk (rs:=rs) (a:=some (.fl (rs.map Row.enc))) (b:=some (.ref G.length)) (c:=some (.int k)) (d:=some (.fl (Aq (way rs k)))) (e:=none) (t:=take1 rs P k) (A:=.lst (tab rs.length (fset T k (take1 rs P k)))) (G:=G) (way rs k) P w hwl;rw [ZHw (ZOS hR k)] at hsub;obtain ⟨x',y',z',w',ih⟩:=ZJh hR hl (G:=G) ks (J9 P (way rs k) (take1 rs P k)) (fset T k (take1 rs P k)) (some (.int k)) (some (.fl (Aq (way rs k)))) (some (.int (take1 rs P k))) w1 λj hj=>h j (List.mem_cons_of_mem _ hj)
  refine ⟨x',y',z',w',?_⟩;have g0:(G++ [DO.lst (tab rs.length T),DO.lst (tab rs.length P)])[G.length + 1]? =some (.lst (tab rs.length P)):=ZAS _ 1;have hcomp:Eb (gV 0) Ci ZEU (Bf 1 [2] [some (.fl (rs.map Row.enc)),some (.ref G.length),some (.ref (G.length + 1)),some (.int k),some (.fl (Aq (way rs k))),z,w]) (Aq (way rs k)) (G++ [DO.lst (tab rs.length T),DO.lst (tab rs.length P)])=.ok (pD P (way rs k)) (G++ [DO.lst (tab rs.length T),DO.lst (tab rs.length P)]):=by
   rw [Yu (F:=λd=>match d with | .int i=>some (.int (P i.toNat)) | _=>none) (λq hq=> ?_)]
   ·congr 1
    unfold Aq;rw [List.filterMap_map];show (way rs k).filterMap (λ(i:Nat)=>some (D.int (P ((i:Int).toNat))))=_;rw [List.filterMap_eq_map'];simp [pD]
   ·obtain ⟨i,hi,rfl⟩:=List.mem_map.mp hq;refine ⟨[some (.int i),some (.ref (G.length + 1))],by simp [Bf],.inr ⟨rfl,.int (P i),?_,by simp⟩⟩;unfold ZEU;simp [g0,Hn (hwl i hi)]
  have hwn:(way rs k).length<=1000000:=by have h1:=ZGP hR rs.length k (by lia);lia
  have hmin:∀G,Oj [.fl (pD P (way rs k))] G=.ok (.int (wmin P (way rs k))) G:=λG=>by rw [J8 hR];exact ZQQ (n:=P k) (ns:=(Jx rs (Bw rs k)).map P) (by simp [pD])
  have hfr:freeze (G++ [DO.lst (tab rs.length T),DO.lst (tab rs.length P)]) (.ok (.ref (G.length + 2)) (G++ [DO.lst (tab rs.length T),DO.lst (tab rs.length P),.lst (pD P (way rs k))]))=.ok (.fl (pD P (way rs k))) (G++ [DO.lst (tab rs.length T),DO.lst (tab rs.length P)]):=ZEJ ZLC;have hfw:freeze (G++ [DO.lst (tab rs.length T),DO.lst (tab rs.length P)]) (.ok (.ref (G.length + 2)) (G++ [DO.lst (tab rs.length T),DO.lst (tab rs.length P),.lst (Aq (way rs k))]))=.ok (.fl (Aq (way rs k))) (G++ [DO.lst (tab rs.length T),DO.lst (tab rs.length P)]):=ZEJ ZEC
  have hb:T8 [some (.fl (rs.map Row.enc)),some (.ref G.length),some (.ref (G.length + 1)),some (.int k),y,z,w] (G++ [.lst (tab rs.length T),.lst (tab rs.length P)])=
    .nx [some (.fl (rs.map Row.enc)),some (.ref G.length),some (.ref (G.length + 1)),some (.int k),some (.fl (Aq (way rs k))),some (.int (take1 rs P k)),w1] (G++ [.lst (tab rs.length (fset T k (take1 rs P k))),.lst (tab rs.length (J9 P (way rs k) (take1 rs P k)))]):=by
   unfold T8;have ht1:min (col Row.need rs k) (wmin P (way rs k))=take1 rs P k:=rfl;simp [ZPp hR hl hk,hfw,ZCj hk,hcomp,Ao,hwn,hfr,hmin,ht1,Di,Eg,Jd,hk,Q3,hsub]
  show Bg _ _ (.int k::Aq ks) _ _=_;rw [Dk];simp only [Do,R.Dj,List.set,hb,Dt];exact ih
theorem ZPU (hR:Reach rs) (hl:rs.length<=40) (G:DH):Xi [.fl (rs.map Row.enc)] G=.ok (.ref G.length) (G++ [.lst (tab rs.length (shr rs))]):=by
 have hz:List.replicate rs.length (D.int 0)=tab rs.length λ_=>0:=by unfold tab;refine List.ext_getElem (by simp) λi h1 h2=>by simp
 have hrep:Kq (.ref G.length) (.int (rs.length:Int)) (G++ [.lst [.int 0]])=.ok (.ref (G.length + 1)) (G++ [.lst [.int 0],.lst (tab rs.length λ_=>0)]):=by rw [ZI0 (d:=.int 0) (by rw [Di];rfl) (by lia),hz];simp
 have ht1:tidy G (.ok (.ref (G.length + 1)) (G++ [.lst [.int 0],.lst (tab rs.length λ_=>0)]))=.ok (.ref G.length) (G++ [.lst (tab rs.length λ_=>0)]):=ZC3 _ (k:=1) rfl Q5;have hp:Q0 [.fl (rs.map Row.enc),.ref G.length] (G++ [.lst (tab rs.length λ_=>0)])=.ok (.ref (G.length + 1)) (G++ [.lst (tab rs.length λ_=>0),.lst (tab rs.length (gath rs (col Row.water rs)))]):=by rw [ZFm hR hl (T:=λ_=>0) (ZSK (by rw [Di];rfl))];simp
 have ht2:tidy (G++ [.lst (tab rs.length λ_=>0)]) (.ok (.ref (G.length + 1)) (G++ [.lst (tab rs.length λ_=>0),.lst (tab rs.length (gath rs (col Row.water rs)))]))=.ok (.ref (G.length + 1)) (G++ [.lst (tab rs.length λ_=>0),.lst (tab rs.length (gath rs (col Row.water rs)))]):=ZMS Q5;have hfs:freeze (G++ [.lst (tab rs.length λ_=>0),.lst (tab rs.length (gath rs (col Row.water rs)))]) (.ok (.ref (G.length + 2)) (G++ [.lst (tab rs.length λ_=>0),.lst (tab rs.length (gath rs (col Row.water rs))),.lst (Aq (ord rs))]))=.ok (.fl (Aq (ord rs))) (G++ [.lst (tab rs.length λ_=>0),.lst (tab rs.length (gath rs (col Row.water rs)))]):=ZEJ ZEC
 obtain ⟨x',y',z',w',hL⟩:=ZJh hR hl (G:=G) (ord rs) (gath rs (col Row.water rs)) (λ_=>0) none none none none λk hk=>V4 hk
 have hfin:∀A,tidy G (.ok (.ref G.length) (G++ [.lst (tab rs.length (shr rs)),A]))=.ok (.ref G.length) (G++ [.lst (tab rs.length (shr rs))]):=λA=>Es Q5
 have hL':Bg (gV 3) T8 (Aq (ord rs)) [some (.fl (rs.map Row.enc)),some (.ref G.length),some (.ref (G.length + 1)),none,none,none,none] (G++ [.lst (tab rs.length λ_=>0),.lst (tab rs.length (gath rs (col Row.water rs)))])=
   .nx [some (.fl (rs.map Row.enc)),some (.ref G.length),some (.ref (G.length + 1)),x',y',z',w'] (G++ [.lst (tab rs.length (shr rs)),.lst (tab rs.length (srv rs (ord rs) (gath rs (col Row.water rs)) λ_=>0).1)]):=hL
 unfold Xi W6;rw [Be];simp [Ao,hrep,ht1,hp,ht2,ZRo hl,hfs,hL',hfin]
noncomputable def ind (t:Int) (ws:List Nat):Nat->Int:=λi=>if i∈ws then t else 0
theorem ZCL (hR:Reach rs) :∀(m j:Nat) (A:Nat->Int),k < j->gat rs m j (λi=>A i + ind t [k] i)=λi=>gat rs m j A i + ind t [k] i
 | 0,j,A,h=>rfl
 | m + 1,j,A,h=>by
  unfold gat;have e:gstep (λi=>A i + ind t [k] i) j (Bw rs j)=λi=>gstep A j (Bw rs j) i + ind t [k] i:=by
   cases hd:Bw rs j with
   | none=>rfl
   | some d=>
    have:=Jc hR hd;funext i;simp only [gstep,fset,ind,List.mem_singleton];have h1:j≠k:=by lia
    have h2:d≠k:=by lia
    by_cases hi:i=d
    ·subst hi;simp [h1,h2]
    ·simp [hi]
  rw [e,ZCL hR m (j + 1) _ (by lia)]
theorem Vj (hR:Reach rs) :∀(m j k:Nat) (A:Nat->Int),j + m=rs.length->j<=k->k < rs.length->gat rs m j (λi=>A i + ind t [k] i)=λi=>gat rs m j A i + ind t (way rs k) i
 | 0,j,k,A,h,h1,h2=>by lia
 | m + 1,j,k,A,h,h1,h2=>by
  unfold gat;by_cases hjk:j < k
  ·have e:gstep (λi=>A i + ind t [k] i) j (Bw rs j)=λi=>gstep A j (Bw rs j) i + ind t [k] i:=by
    cases hd:Bw rs j with
    | none=>rfl
    | some d=>
     funext i;simp only [gstep,fset,ind,List.mem_singleton];have h3:j≠k:=by lia
     by_cases hi:i=d
     ·subst hi;simp [h3];split <;> lia
     ·simp [hi]
   rw [e,Vj hR m (j + 1) k _ (by lia) (by lia) h2]
  ·have ej:j=k:=by lia
   subst ej;cases hd:Bw rs j with
   | none=>
    have hw:way rs j= [j]:=by rw [J8 hR,hd];rfl
    show gat rs m (j + 1) (λi=>A i + ind t [j] i)=_;rw [ZCL hR m (j + 1) A (by lia),hw]
    rfl
   | some d=>
    have hlt:=Jc hR hd;have hw:way rs j=j::way rs d:=by rw [J8 hR,hd];rfl
    have e:gstep (λi=>A i + ind t [j] i) j (some d)=λi=>(gstep A j (some d) i + ind t [d] i) + ind t [j] i:=by
     funext i;simp only [gstep,fset,ind,List.mem_singleton];have h3:d≠j:=by lia
     by_cases hi:i=d
     ·subst hi;simp [h3];lia
     ·simp [hi]
    rw [e,ZCL hR m (j + 1) _ (by lia),Vj hR m (j + 1) d _ (by lia) (by lia) hlt.2];funext i;have hnj:j ∉ way rs d:=λhm=>by have:=Yo hR hlt.2 hm;lia
    simp only [ind,hw,List.mem_cons,List.mem_singleton];by_cases hi:i=j
    ·subst hi;simp [hnj]
    ·simp [hi]
theorem ZNV (hR:Reach rs) {W:Nat->Int} (hk:k < rs.length) (h0:T k=0):gath rs (λi=>W i - fset T k t i)=J9 (gath rs λi=>W i - T i) (way rs k) t:=by
 have e:(λi=>W i - fset T k t i)=λi=>(W i - T i) + ind (-t) [k] i:=by
  funext i;simp only [fset,ind,List.mem_singleton];by_cases hi:i=k
  ·subst hi;simp [h0];lia
  ·simp [hi]
 rw [e];show gat rs rs.length 0 _=_;rw [Vj hR rs.length 0 k _ (by lia) (by lia) hk];funext i;simp only [ind,J9,gath]
 split <;> lia
theorem ZH6:∀(m k:Nat) (F:Nat->Int),(∀i,0<=F i)->∀i,0<=gat rs m k F i
 | 0,k,F,h,i=>h i
 | m + 1,k,F,h,i=>by
  refine ZH6 m (k + 1) _ (λj=> ?_) i;cases Bw rs k with
  | none=>exact h j
  | some d=>
   simp only [gstep,fset];have:=h d;have:=h k;have:=h j
   split <;> lia
structure SI (rs:List Row) (P T:Nat->Int):Prop where
 pg:P=gath rs λi=>col Row.water rs i - T i
 t0:∀i,0<=T i
 tn:∀i,T i<=col Row.need rs i
 p0:∀i,i < rs.length->0<=P i
theorem ZOo (h:∀b∈ws,0<=P b):0<=wmin P ws:=by
 cases ws with
 | nil=>exact Int.le_refl _
 | cons k r=>
  obtain ⟨b,hb,e⟩:=ZKu (P:=P) (ws:=k::r) (by simp);rw [e];exact h b hb
theorem SI.take (hR:Reach rs) (s:SI rs P T) (hk:k < rs.length):0<=take1 rs P k/\take1 rs P k<=col Row.need rs k/\∀b∈way rs k,take1 rs P k<=P b:=by
 have h1:0<=wmin P (way rs k):=ZOo λb hb=>s.p0 b (Yo hR hk hb).2
 have h2:=hR.need k;unfold take1;refine ⟨by lia,by lia,λb hb=> ?_⟩;have:=ZKa (P:=P) hb;lia
theorem SI.step (hR:Reach rs) (s:SI rs P T) (hk:k < rs.length) (h0:T k=0):SI rs (J9 P (way rs k) (take1 rs P k)) (fset T k (take1 rs P k)):=by
 obtain ⟨a,b,c⟩:=s.take hR hk;refine ⟨?_,λi=> ?_,λi=> ?_,λi hi=> ?_⟩
 ·rw [ZNV hR hk h0,<-s.pg]
 ·simp only [fset];split
  ·exact a
  ·exact s.t0 i
 ·simp only [fset];split
  ·rename_i e;rw [e];exact b
  ·exact s.tn i
 ·simp only [J9];split
  ·rename_i hm;have:=c i hm;lia
  ·exact s.p0 i hi
theorem SI.run (hR:Reach rs):∀(ks:List Nat) (P T:Nat->Int),SI rs P T->ks.Nodup->(∀k∈ks,k < rs.length/\T k=0)->SI rs (srv rs ks P T).1 (srv rs ks P T).2
 | [],P,T,s,_,_=>s
 | k::ks,P,T,s,nd,h=>by
  obtain ⟨n1,n2⟩:=List.nodup_cons.mp nd;obtain ⟨hk,h0⟩:=h k List.mem_cons_self;refine SI.run hR ks _ _ (s.step hR hk h0) n2 λj hj=> ?_
  obtain ⟨hj1,hj2⟩:=h j (List.mem_cons_of_mem _ hj);have:j≠k:=λe=>n1 (e ▸ hj)
  exact ⟨hj1,by simp [fset,this,hj2]⟩
theorem ZGA (rs:List Row):(ord rs).Nodup:=(Qk rs).nodup_iff.mpr List.nodup_range
theorem SI.first (hR:Reach rs):SI rs (gath rs (col Row.water rs)) λ_=>0:=
 ⟨by simp,λ_=>Int.le_refl _,hR.need,λi _=>ZH6 _ _ _ hR.water i⟩
theorem Rp (hR:Reach rs):SI rs (srv rs (ord rs) (gath rs (col Row.water rs)) λ_=>0).1 (shr rs):=
 SI.run hR (ord rs) _ _ (SI.first hR) (ZGA rs) λk hk=>⟨V4 hk,rfl⟩
theorem ZFC:∀(a b:List Nat) (P T:Nat->Int),srv rs (a++b) P T=srv rs b (srv rs a P T).1 (srv rs a P T).2
 | [],b,P,T=>rfl
 | k::a,b,P,T=>ZFC a b _ _
theorem Q8:∀(ks:List Nat) (P T:Nat->Int),j ∉ ks->(srv rs ks P T).2 j=T j
 | [],P,T,h=>rfl
 | k::ks,P,T,h=>by simp only [List.mem_cons,not_or] at h;show (srv rs ks _ _).2 j=_;rw [Q8 ks _ _ h.2];simp [fset,h.1]
theorem ZOl:ltK rs i i=false:=(S9 rs).refl i
theorem ZRe (hR:Reach rs) (hk:k < rs.length):∃(pre post:List Nat) (P T:Nat->Int),ord rs=pre++k::post/\(P,T)=srv rs pre (gath rs (col Row.water rs)) (λ_=>0)/\SI rs P T/\(T=λj=>if ltK rs j k then shr rs j else 0)/\shr rs k=take1 rs P k/\(∀j,j∈pre↔(j < rs.length/\ltK rs j k=true))/\(∀j∈post,ltK rs k j=true):=by
 have hm:k∈ord rs:=(Qk rs).mem_iff.mpr (List.mem_range.mpr hk);obtain ⟨pre,post,e⟩:=List.append_of_mem hm;have nd:=ZGA rs;have so:=ZQd rs;rw [e] at nd so;obtain ⟨so1,so2,so3⟩:=List.pairwise_append.mp so;obtain ⟨nd1,nd2,nd3⟩:=List.nodup_append.mp nd;obtain ⟨nd4,nd5⟩:=List.nodup_cons.mp nd2;have hpl:∀j∈pre,j < rs.length:=λj hj=>V4 (by rw [e];exact List.mem_append_left _ hj)
 have hpk:∀j∈post,ltK rs k j=true:=λj hj=>(List.pairwise_cons.mp so2).1 j hj
 have hpre:∀j,j∈pre↔(j < rs.length/\ltK rs j k=true):=λj=>by
  constructor
  ·exact λhj=>⟨hpl j hj,so3 j hj k List.mem_cons_self⟩
  ·rintro ⟨h1,h2⟩;have hj:j∈ord rs:=(Qk rs).mem_iff.mpr (List.mem_range.mpr h1);rw [e] at hj;rcases List.mem_append.mp hj with hj | hj
   ·exact hj
   ·rcases List.mem_cons.mp hj with rfl | hj
    ·rw [ZOl] at h2;cases h2
    ·have:=(S9 rs).asy _ _ (hpk j hj);rw [h2] at this;cases this
 refine ⟨pre,post,(srv rs pre (gath rs (col Row.water rs)) λ_=>0).1,(srv rs pre (gath rs (col Row.water rs)) λ_=>0).2,e,rfl,?_,?_,?_,hpre,hpk⟩
 ·exact SI.run hR pre _ _ (SI.first hR) nd1 λj hj=>⟨hpl j hj,rfl⟩
 ·funext j;by_cases hj:j∈pre
  ·have h2:j ∉ k::post:=λhm=>nd3 j hj j hm rfl
   rw [if_pos ((hpre j).mp hj).2];unfold shr;rw [e,ZFC,Q8 (k::post) _ _ h2]
  ·rw [Q8 pre _ _ hj];by_cases hlt:ltK rs j k=true
   ·rw [if_pos hlt];have hjn:¬j < rs.length:=λh=>hj ((hpre j).mpr ⟨h,hlt⟩)
    unfold shr;rw [Q8 (ord rs) _ _ (λhm=>hjn (V4 hm))]
   ·rw [if_neg hlt]
 ·unfold shr;rw [e,ZFC];show (srv rs post _ _).2 k=_;rw [Q8 post _ _ nd4];simp [fset]
theorem ZRB (hj:¬j < rs.length):shr rs j=0:=by unfold shr;rw [Q8 (ord rs) _ _ λhm=>hj (V4 hm)]
theorem rp:¬(("pump":Str)="river"):=by decide
theorem pr:¬(("river":Str)="pump"):=by decide
structure Stp where
 h:Int
 m:Int
 r:Bool
variable {st:List Stp}
noncomputable def wy (r:Bool):Str:=if r then "river" else "pump"
noncomputable def Stp.enc (s:Stp):D:=.tup [.int s.h,.int s.m,.str (wy s.r)]
@[simp] theorem ZUW {n:Nat} :bels n (st.map Stp.enc)=true:=Gm λs _=>by simp [Stp.enc]
@[simp] theorem ZU0 {r:Bool}:(wy r="river")=(r=true):=by
 cases r
 ·exact propext ⟨λh=>absurd h rp,λh=>by cases h⟩
 ·exact propext ⟨λh=>rfl,λ_=>rfl⟩
@[simp] theorem ZT5 {r:Bool}:(wy r="pump")=(r=false):=by
 cases r
 ·exact propext ⟨λh=>rfl,λ_=>rfl⟩
 ·exact propext ⟨λh=>absurd h pr,λh=>by cases h⟩
noncomputable abbrev Ssn:=Int×List Stp
noncomputable def Cy (s:Ssn):D:=.tup [.int s.1,.tup (s.2.map Stp.enc)]
@[simp] theorem ZUf {n:Nat} {ss:List Ssn}:bels n (ss.map Cy)=true:=Gm λs _=>by simp [Cy]
noncomputable def held (t:Int):List Ssn->List Stp->List Stp
 | [],h=>h
 | s::r,h=>held t r (if s.1<=t then s.2 else h)
theorem ZIO {c:D} {t:Int} {G:DH}:∀{ss:List Ssn} {h:List Stp} {a b:Option D},∃a' b',Bg (Cd 2 (Ar (gV 3) (Ar (gV 4) Cj))) Y6 (ss.map Cy) [some c,some (.int t),some (.tup (h.map Stp.enc)),a,b] G=
  .nx [some c,some (.int t),some (.tup ((held t ss h).map Stp.enc)),a',b'] G
 | [],h,a,b=>⟨a,b,by rw [List.map_nil,Ec];rfl⟩
 | s::r,h,a,b=>by
  obtain ⟨a',b',ih⟩:=ZIO (c:=c) (t:=t) (G:=G) (ss:=r) (h:=if s.1<=t then s.2 else h) (a:=some (.int s.1)) (b:=some (.tup (s.2.map Stp.enc)));refine ⟨a',b',?_⟩;have hb:Y6 [some c,some (.int t),some (.tup (h.map Stp.enc)),some (.int s.1),some (.tup (s.2.map Stp.enc))] G=.nx [some c,some (.int t),some (.tup ((if s.1<=t then s.2 else h).map Stp.enc)),some (.int s.1),some (.tup (s.2.map Stp.enc))] G:=by
   unfold Y6
   by_cases h1:s.1<=t <;> simp [h1]
  rw [List.map_cons,Dk];simp only [Cy,Xl,Xc,ZBm,Do,R.Lg,R.Dj,List.set,hb,Dt,List.length_cons,List.length_nil,Nat.reduceAdd,if_true];exact ih
theorem c_at {ss:List Ssn} :ZAD [.tup (ss.map Cy),.int t] G=.ok (.tup ((held t ss []).map Stp.enc)) G:=by obtain ⟨a,b,h⟩:=ZIO (c:=.tup (ss.map Cy)) (t:=t) (G:=G) (ss:=ss) (h:= []) (a:=none) (b:=none);unfold ZAD W2;rw [Be];simp at h;simp [h,Bd]
noncomputable def cub (w:Int) (s:Stp):Int:=max 0 (min s.m (w - s.h))
noncomputable def rv (w:Int):List Stp->Int
 | []=>0
 | s::r=>(if s.r then cub w s else 0) + rv w r
noncomputable def pm (w:Int):List Stp->Int
 | []=>0
 | s::r=>(if s.r then 0 else cub w s) + pm w r
theorem ZJ0 {c:D} {w:Int} {G:DH}:∀{st:List Stp} {a b:Int} {e f g h:Option D},∃e' f' g' h',Bg (Cd 3 (Ar (gV 4) (Ar (gV 5) (Ar (gV 6) Cj)))) Vo (st.map Stp.enc) [some c,some (.int w),some (.int a),some (.int b),e,f,g,h] G=
  .nx [some c,some (.int w),some (.int (a + rv w st)),some (.int (b + pm w st)),e',f',g',h'] G
 | [],a,b,e,f,g,h=>⟨e,f,g,h,by simp [Ec,rv,pm]⟩
 | s::r,a,b,e,f,g,h=>by
  obtain ⟨e',f',g',h',ih⟩:=ZJ0 (c:=c) (w:=w) (G:=G) (st:=r) (a:=a + (if s.r then cub w s else 0)) (b:=b + (if s.r then 0 else cub w s)) (e:=some (.int s.h)) (f:=some (.int s.m)) (g:=some (.str (wy s.r))) (h:=some (.int (cub w s)));refine ⟨e',f',g',h',?_⟩;have hb:Vo [some c,some (.int w),some (.int a),some (.int b),some (.int s.h),some (.int s.m),some (.str (wy s.r)),h] G=.nx [some c,some (.int w),some (.int (a + (if s.r then cub w s else 0))),some (.int (b + (if s.r then 0 else cub w s))),some (.int s.h),some (.int s.m),some (.str (wy s.r)),some (.int (cub w s))] G:=by
   unfold Vo cub
   cases s.r <;> simp
  rw [List.map_cons,Dk];simp [Stp.enc,hb];rw [ih];simp [rv,pm,Int.add_assoc]
theorem ZHe:ZAb [.tup (st.map Stp.enc),.int w] G=.ok (.tup [.int (rv w st),.int (pm w st),.int (w - rv w st - pm w st)]) G:=by obtain ⟨e,f,g,h,hl⟩:=ZJ0 (c:=.tup (st.map Stp.enc)) (w:=w) (G:=G) (st:=st) (a:=0) (b:=0) (e:=none) (f:=none) (g:=none) (h:=none);unfold ZAb Vv;rw [Be];simp at hl;simp [hl,Bd]
inductive Kd where
 | basin (brim:Int) (rule:List Ssn) (pump:Option (Nat×Nat×Int))
 | town (need rank:Int)
 | mill (most:Int)
structure Pl where
 nm:Str
 dn:Option Nat
 dl:Nat
 kd:Kd
noncomputable def ZCW:Pl:=⟨"",none,0,.mill 0⟩
structure Hs where
 yr:Int
 ps:List Pl
variable {h:Hs}
noncomputable def Kd.txt:Kd->Str
 | .basin ..=>"basin"
 | .town ..=>"town"
 | .mill ..=>"mill"
noncomputable def Kd.isB:Kd->Bool
 | .basin ..=>true
 | _=>false
noncomputable def Kd.isT:Kd->Bool
 | .town ..=>true
 | _=>false
noncomputable def Hs.pl (h:Hs) (k:Nat):Pl:=h.ps.getD k ZCW
noncomputable def Hs.n (h:Hs):Nat:=h.ps.length
noncomputable def Hs.dnT (h:Hs):Option Nat->Str
 | none=>"sea"
 | some d=>(h.pl d).nm
noncomputable def Hs.Mu (h:Hs):Option (Nat×Nat×Int)->D
 | none=>.non
 | some (to,dl,m)=>.tup [.str (h.pl to).nm,.int dl,.int m]
noncomputable def Hs.encP (h:Hs) (p:Pl):D:=match p.kd with
 | .basin b r q=>.tup [.str "basin",.str p.nm,.str (h.dnT p.dn),.int p.dl,.int b,.tup (r.map Cy),h.Mu q]
 | .town a b=>.tup [.str "town",.str p.nm,.str (h.dnT p.dn),.int p.dl,.int a,.int b]
 | .mill a=>.tup [.str "mill",.str p.nm,.str (h.dnT p.dn),.int p.dl,.int a]
noncomputable def Hs.Ce (h:Hs):List D:=h.ps.map h.encP
noncomputable def Hs.enc (h:Hs):D:=.tup [.int h.yr,.tup h.Ce]
noncomputable def Good:Int->List Stp->Prop
 | _,[]=>True
 | t,s::r=>t<=s.h/\1<=s.m/\Good (s.h + s.m) r
structure GoodH (h:Hs):Prop where
 yr:0 < h.yr
 len:h.n<=12
 inj:∀i j,i < h.n->j < h.n->(h.pl i).nm=(h.pl j).nm->i=j
 sea:∀i,i < h.n->(h.pl i).nm≠"sea"
 dn:∀k d,k < h.n->(h.pl k).dn=some d->k < d/\d < h.n
 dl:∀k,k < h.n->(h.pl k).dl<=5
 pump:∀k b r to dl m,k < h.n->(h.pl k).kd=.basin b r (some (to,dl,m))->to < h.n/\1<=dl/\dl<=5
 brim:∀k b r q,k < h.n->(h.pl k).kd=.basin b r q->0<=b/\∀s∈r,Good 0 s.2
 town:∀k a b,k < h.n->(h.pl k).kd=.town a b->0<=a/\0<=b
theorem Hs.K5:h.Ce.length=h.n:=by simp [Hs.Ce,Hs.n]
theorem Hs.ZIQ (hk:k < h.n):h.Ce[k]? =some (h.encP (h.pl k)):=by unfold Hs.Ce Hs.pl;rw [List.getElem?_map,List.getElem?_eq_getElem hk];simp [List.getD_eq_getElem?_getD,List.getElem?_eq_getElem hk]
theorem Hs.Dr (hk:k < h.n):atI h.Ce (k:Int)=some (h.encP (h.pl k)):=Ex rfl (Hs.ZIQ hk)
theorem Hs.ZKD {n:Nat} :bel n (h.Mu q)=true:=by
 cases q with
 | none=>rfl
 | some x=>obtain ⟨a,b,c⟩:=x;simp [Hs.Mu]
@[simp] theorem Hs.ZK1 {n:Nat} {p:Pl}:bel n (h.encP p)=true:=by
 unfold Hs.encP
 cases p.kd <;> simp [Hs.ZKD]
@[simp] theorem Hs.ZT6 {n:Nat}:bels n h.Ce=true:=Gm λ_ _=>Hs.ZK1
section
variable {h:Hs} {p:Pl} {G:DH}
@[simp] theorem encP0:Ai (h.encP p) (.int 0) G=.ok (.str p.kd.txt) G:=by
 unfold Hs.encP
 cases p.kd <;> simp [Kd.txt]
@[simp] theorem encP1:Ai (h.encP p) (.int 1) G=.ok (.str p.nm) G:=by
 unfold Hs.encP
 cases p.kd <;> simp
@[simp] theorem encP2:Ai (h.encP p) (.int 2) G=.ok (.str (h.dnT p.dn)) G:=by
 unfold Hs.encP
 cases p.kd <;> simp
@[simp] theorem encP3:Ai (h.encP p) (.int 3) G=.ok (.int p.dl) G:=by
 unfold Hs.encP
 cases p.kd <;> simp
theorem By:Ai h.enc (.int 1) G=.ok (.tup h.Ce) G:=by unfold Hs.enc;simp
theorem ZSe:Ai h.enc (.int 0) G=.ok (.int h.yr) G:=by unfold Hs.enc;simp
theorem G7 {k:Kd}:(k.txt="basin")=(k.isB=true):=by cases k <;> simp [Kd.txt,Kd.isB] <;> decide
theorem Gw {k:Kd}:(k.txt="town")=(k.isT=true):=by cases k <;> simp [Kd.txt,Kd.isT] <;> decide
end
theorem ZJC (g:GoodH h) (hd:d < h.n) :∀(m k:Nat) (a b:Option D),k + m=d->
  Bg (Cd 2 (Ar (gV 2) (Ar (gV 3) Cj))) Ql ((Dy h.Ce).drop k) [some h.enc,some (.str (h.pl d).nm),a,b] G=.rt (.int d) G
 | m,k,a,b,e=>by
  have hk:k < h.n:=by lia
  have e0:(Dy h.Ce).drop k=.tup [.int k,h.encP (h.pl k)]::(Dy h.Ce).drop (k + 1):=by rw [List.drop_eq_getElem_cons (by rw [K9,Hs.K5];exact hk)];have:=Hs.ZIQ hk;rw [List.getElem?_eq_getElem (by rw [Hs.K5];exact hk)] at this;have e2:=Option.some.inj this;simp [Dy,e2]
  rw [e0,Dk];cases m with
  | zero=>
   have e1:k=d:=by lia
   subst e1;have hb:Ql [some h.enc,some (.str (h.pl k).nm),some (.int k),some (h.encP (h.pl k))] G=.rt (.int k) G:=by unfold Ql;simp
   simp [hb]
  | succ m=>
   have hne:(h.pl k).nm≠(h.pl d).nm:=λz=>by have:=g.inj k d hk hd z;lia
   have hb:Ql [some h.enc,some (.str (h.pl d).nm),some (.int k),some (h.encP (h.pl k))] G=.nx [some h.enc,some (.str (h.pl d).nm),some (.int k),some (h.encP (h.pl k))] G:=by unfold Ql;simp [hne]
   simp [hb];exact ZJC g hd m (k + 1) _ _ (by lia)
theorem ZGy (g:GoodH h) (hd:d < h.n) (G:DH):Qt [h.enc,.str (h.pl d).nm] G=.ok (.int d) G:=by have hL:=ZJC g hd (G:=G) d 0 none none (by lia);rw [List.drop_zero] at hL;unfold Qt Qy;rw [Be];simp [By,Ip,Ku,lenOf,hL,Bd]
noncomputable def Hs.dn (h:Hs) (k:Nat):Option Nat:=(h.pl k).dn
theorem O2 (g:GoodH h) (hk:k < h.n) (G:DH):Tv [h.enc,.int k] G=.ok (dnD (h.dn k)) G:=by
 unfold Tv Uy;rw [Be];cases hd:h.dn k with
 | none=>
  have e:(h.pl k).dn=none:=hd;simp [By,Hs.Dr hk,e,Hs.dnT,dnD,Bd]
 | some d=>
  have e:(h.pl k).dn=some d:=hd;have hl:=g.dn k d hk e;simp [By,Hs.Dr hk,e,Hs.dnT,g.sea d hl.2,ZGy g hl.2,dnD,Bd]
noncomputable def Hs.dir (h:Hs) (k:Nat):Option Nat:=match h.dn k with
 | none=>none
 | some d=>if 0 < (h.pl k).dl∨(h.pl k).kd.isB=true∨(h.pl d).kd.isB=true then none else some d
theorem Qa (g:GoodH h) (hk:k < h.n) (G:DH):Rm [h.enc,.int k] G=.ok (dnD (h.dir k)) G:=by
 unfold Rm Um;rw [Be];cases hd:h.dn k with
 | none=>simp [By,O2 g hk,hd,Hs.dir,dnD,Bd]
 | some d=>
  have hl:=g.dn k d hk hd;by_cases h1:0 < (h.pl k).dl
  ·simp [By,O2 g hk,hd,Hs.dir,dnD,Bd,Hs.Dr hk,h1]
  ·by_cases h2:(h.pl k).kd.isB=true
   ·simp [By,O2 g hk,hd,Hs.dir,dnD,Bd,Hs.Dr hk,h1,G7,h2]
   ·by_cases h3:(h.pl d).kd.isB=true
    ·simp [By,O2 g hk,hd,Hs.dir,dnD,Bd,Hs.Dr hk,Hs.Dr hl.2,h1,G7,h2,h3]
    ·simp [By,O2 g hk,hd,Hs.dir,dnD,Bd,Hs.Dr hk,Hs.Dr hl.2,h1,G7,h2,h3]
theorem ZPs (g:GoodH h) (hk:k < h.n) (e:h.dir k=some d):k < d/\d < h.n:=by
 unfold Hs.dir at e;cases hd:h.dn k with
 | none=>rw [hd] at e;cases e
 | some d'=>
  rw [hd] at e;simp only at e;split at e
  ·cases e
  ·cases e;exact g.dn k d hk hd
theorem ZNy (hk:¬k < h.n):h.pl k=ZCW:=by
 unfold Hs.pl;rw [List.getD_eq_getElem?_getD,List.getElem?_eq_none (by unfold Hs.n at hk;lia)]
 rfl
theorem My (hk:¬k < h.n):h.dir k=none:=by
 have e:h.dn k=none:=by unfold Hs.dn;rw [ZNy hk];rfl
 unfold Hs.dir;rw [e]
theorem Gx (g:GoodH h) (e:h.dir k=some d):k < d/\d < h.n/\k < h.n:=by
 by_cases hk:k < h.n
 ·have:=ZPs g hk e;lia
 ·rw [My hk] at e;cases e
noncomputable def Hs.Jf (h:Hs):Nat->Nat->Nat
 | 0,k=>k
 | m + 1,k=>match h.dir k with
  | none=>k
  | some d=>h.Jf m d
noncomputable def Hs.last (h:Hs) (k:Nat):Nat:=h.Jf h.n k
theorem ZCb (g:GoodH h):∀(m m' k:Nat),h.n<=m + k->h.n<=m' + k->h.Jf m k=h.Jf m' k
 | 0,m',k,e,e'=>by
  have hn:h.dir k=none:=My (by lia);cases m' with
  | zero=>rfl
  | succ m'=>simp [Hs.Jf,hn]
 | m + 1,0,k,e,e'=>by have hn:h.dir k=none:=My (by lia);simp [Hs.Jf,hn]
 | m + 1,m' + 1,k,e,e'=>by
  cases hd:h.dir k with
  | none=>simp [Hs.Jf,hd]
  | some d=>
   have:=Gx g hd;simp [Hs.Jf,hd,ZCb g m m' d (by lia) (by lia)]
theorem Ik (g:GoodH h) (e:h.dir k=none):h.last k=k:=by unfold Hs.last;rw [ZCb g h.n (h.n + 1) k (by lia) (by lia)];simp [Hs.Jf,e]
theorem Kv (g:GoodH h) (e:h.dir k=some d):h.last k=h.last d:=by unfold Hs.last;rw [ZCb g h.n (h.n + 1) k (by lia) (by lia)];simp [Hs.Jf,e]
theorem ZJp (g:GoodH h):∀(m k:Nat),h.n<=m + k->k<=h.last k/\(k < h.n->h.last k < h.n)
 | 0,k,e=>by rw [Ik g (My (by lia))];lia
 | m + 1,k,e=>by
  cases hd:h.dir k with
  | none=>rw [Ik g hd];lia
  | some d=>
   have:=Gx g hd;rw [Kv g hd];have:=ZJp g m d (by lia);lia
theorem Hy (g:GoodH h) (k:Nat):k<=h.last k/\(k < h.n->h.last k < h.n):=ZJp g h.n k (by lia)
noncomputable def Hs.Gz (h:Hs) (j:Nat):Nat->Int:=λi=>if j<=i then h.last i else i
theorem ZIU (g:GoodH h) {G:DH}:∀(j:Nat) (x y:Option D),j<=h.n->∃x' y',
  Bg (gV 2) ZAW (Iw ((j:Int) - 1) j) [some h.enc,some (.ref G.length),x,y] (G++ [.lst (tab h.n (h.Gz j))])=.nx [some h.enc,some (.ref G.length),x',y'] (G++ [.lst (tab h.n (h.Gz 0))])
 | 0,x,y,e=>⟨x,y,by rw [ZJc,Ec]⟩
 | j + 1,x,y,e=>by
  have hj:j < h.n:=by lia
  obtain ⟨x',y',ih⟩:=ZIU g (G:=G) j (some (.int j)) (some (dnD (h.dir j))) (by lia);refine ⟨x',y',?_⟩;have e1:(((j + 1:Nat):Int) - 1)=j:=by lia
  have hb:ZAW [some h.enc,some (.ref G.length),some (.int j),y] (G++ [.lst (tab h.n (h.Gz (j + 1)))])=.nx [some h.enc,some (.ref G.length),some (.int j),some (dnD (h.dir j))] (G++ [.lst (tab h.n (h.Gz j))]):=by
   unfold ZAW;cases hd:h.dir j with
   | none=>
    have et:tab h.n (h.Gz (j + 1))=tab h.n (h.Gz j):=ZHl λi hi=>by
     unfold Hs.Gz;by_cases e2:i=j
     ·subst e2;rw [Ik g hd];simp
     ·by_cases e3:j<=i
      ·rw [if_pos e3,if_pos (by lia)]
      ·rw [if_neg e3,if_neg (by lia)]
    simp [Qa g hj,hd,dnD,et]
   | some d=>
    have hl:=Gx g hd;have et:tab h.n (fset (h.Gz (j + 1)) j (h.Gz (j + 1) d))=tab h.n (h.Gz j):=ZHl λi hi=>by
     unfold Hs.Gz fset;by_cases e2:i=j
     ·subst e2;rw [if_pos rfl,if_pos (by lia),if_pos (by lia),Kv g hd]
     ·rw [if_neg e2];dsimp only;by_cases e3:j<=i
      ·rw [if_pos e3,if_pos (by lia)]
      ·rw [if_neg e3,if_neg (by lia)]
    simp [Qa g hj,hd,dnD,Di,Hn hl.2.1,Eg,Jd,hj,Q3,et]
  rw [e1,ZFt,Dk];simp only [Do,R.Dj,List.set,hb,Dt];exact ih
theorem ZQx (g:GoodH h) (G:DH):Yj [h.enc] G=.ok (.ref G.length) (G++ [.lst (tab h.n λi=>(h.last i:Int))]):=by
 obtain ⟨x',y',hL⟩:=ZIU g (G:=G) h.n none none (Nat.le_refl _);have e0:tab h.n (h.Gz h.n)=Cg 0 h.n:=by
  unfold tab Cg;refine List.map_congr_left λi hi=> ?_
  have:=List.mem_range.mp hi;unfold Hs.Gz;rw [if_neg (by lia)];simp
 have e1:h.Gz 0=λi=>(h.last i:Int):=by funext i;unfold Hs.Gz;simp
 rw [e0,e1] at hL;have hn:=g.len;have r1:inR (h.n:Int):=Gr (by lia) (by lia);have r2:inR ((h.n:Int) - 1):=Gr (by lia) (by lia);have r3:inR (-1):=Gr (by lia) (by lia);have e2:((h.n:Int) - 1 - -1).toNat=h.n:=by lia
 have h6:(h.n:Int)<=1000000:=by lia
 have ebr:bels G.length (Cg 0 h.n)=true:=Gm λ_ _=>rfl
 unfold Yj Yv;rw [Be];simp [By,Hs.K5,r1,h6,Es ebr,r2,r3,ZIY,e2,hL,Es]
noncomputable def Hs.mem (h:Hs) (m:Nat):List Nat:=(List.range h.n).filter λk=>decide (h.last k=m)
theorem mem_iff:k∈h.mem m↔k < h.n/\h.last k=m:=by unfold Hs.mem;rw [List.mem_filter,List.mem_range];simp
theorem O9:(h.mem m).Pairwise (· < ·):=List.Pairwise.filter _ List.pairwise_lt_range
theorem ZJz:(h.mem m).length<=h.n:=by have:=List.length_filter_le (λk=>decide (h.last k=m)) (List.range h.n);simpa [Hs.mem] using this
theorem ZIf (hs:ms.Pairwise (· < ·)) (hi:i < ms.length) (hj:j < ms.length) (h:ms[i] < ms[j]):i < j:=by
 rcases Nat.lt_trichotomy i j with z | z | z
 ·exact z
 ·subst z;lia
 ·have:=List.pairwise_iff_getElem.mp hs j i hj hi z;lia
theorem ZF3 (g:GoodH h) (hm:m < h.n) (e:h.last m=m):(h.mem m).getLast?=some m:=by
 have hmem:m∈h.mem m:=mem_iff.mpr ⟨hm,e⟩;have hne:h.mem m≠ []:=λz=>by rw [z] at hmem;cases hmem
 rw [List.getLast?_eq_some_getLast hne]
 congr 1
 have h1:=mem_iff.mp (List.getLast_mem hne);have h2:=(Hy g ((h.mem m).getLast hne)).1;obtain ⟨i,hi,ei⟩:=List.getElem_of_mem hmem;have h3:m<=(h.mem m).getLast hne:=by
  rw [List.getLast_eq_getElem];by_cases e4:i=(h.mem m).length - 1
  ·subst e4;lia
  ·have:=List.pairwise_iff_getElem.mp (O9 (h:=h) (m:=m)) i ((h.mem m).length - 1) hi (by lia) (by lia);lia
 lia
noncomputable def Hs.need (h:Hs) (k:Nat):Int:=match (h.pl k).kd with
 | .town a _=>a
 | _=>0
noncomputable def Hs.rank (h:Hs) (k:Nat):Int:=match (h.pl k).kd with
 | .town _ b=>b
 | _=>0
noncomputable def Hs.row (h:Hs) (ms:List Nat) (ca:Nat->Int) (k:Nat):Row:=⟨(h.dir k).map λd=>ms.idxOf d,ca k,h.need k,h.rank k⟩
noncomputable def Hs.rows (h:Hs) (ms:List Nat) (ca:Nat->Int):List Row:=ms.map (h.row ms ca)
theorem idx_map (d:Nat):∀ms:List Nat,(ms.map λ(i:Nat)=>(i:Int)).idxOf (d:Int)=ms.idxOf d
 | []=>rfl
 | m::ms=>by
  rw [List.map_cons,List.idxOf_cons,List.idxOf_cons,idx_map d ms];by_cases e:m=d
  ·subst e;simp
  ·have e2:¬((m:Int)=d):=by lia
   have b1:((m:Int) == (d:Int))=false:=by simp [e2]
   have b2:(m == d)=false:=by simp [e]
   rw [b1,b2]
theorem ZG0 (g:GoodH h) (hm:∀k∈ms,k < h.n/\∀d,h.dir k=some d->d∈ms) (hl:ms.length<=40) (hp:G[p]? =some (.lst (tab h.n ca))):∀(ks:List Nat) (acc:List Row) (x1 x2 x3 x4:Option D),(∀k∈ks,k∈ms)->acc.length + ks.length<=40->∃y1 y2 y3 y4,
  Bg (gV 4) Uo (Aq ks) [some h.enc,some (.fl (Aq ms)),some (.ref p),some (.ref G.length),x1,x2,x3,x4] (G++ [.lst (acc.map Row.enc)])=
   .nx [some h.enc,some (.fl (Aq ms)),some (.ref p),some (.ref G.length),y1,y2,y3,y4] (G++ [.lst ((acc++ks.map (h.row ms ca)).map Row.enc)])
 | [],acc,x1,x2,x3,x4,_,_=>⟨x1,x2,x3,x4,by simp [Aq,Ec]⟩
 | k::ks,acc,x1,x2,x3,x4,hk,ha=>by
  obtain ⟨hkn,hkd⟩:=hm k (hk k List.mem_cons_self);obtain ⟨y1,y2,y3,y4,ih⟩:=ZG0 g hm hl hp ks (acc++ [h.row ms ca k]) (some (.int k)) (some (h.encP (h.pl k))) (some (dnD (h.dir k))) (some (dnD ((h.dir k).map λd=>ms.idxOf d))) (λj hj=>hk j (List.mem_cons_of_mem _ hj)) (by simp at ha ⊢;lia);refine ⟨y1,y2,y3,y4,?_⟩;have hpl:p < G.length:=(List.getElem?_eq_some_iff.mp hp).1;have hgp:∀L:DH,(G++L)[p]? =some (.lst (tab h.n ca)):=λL=>by rw [List.getElem?_append_left hpl];exact hp
  have ha2:acc.length < 1000000:=by simp at ha;lia
  have ht:h.row ms ca k=⟨(h.dir k).map λd=>ms.idxOf d,ca k,h.need k,h.rank k⟩:=rfl;have hb:Uo [some h.enc,some (.fl (Aq ms)),some (.ref p),some (.ref G.length),some (.int k),x2,x3,x4] (G++ [.lst (acc.map Row.enc)])=
    .nx [some h.enc,some (.fl (Aq ms)),some (.ref p),some (.ref G.length),some (.int k),some (h.encP (h.pl k)),some (dnD (h.dir k)),some (dnD ((h.dir k).map λd=>ms.idxOf d))] (G++ [.lst ((acc++ [h.row ms ca k]).map Row.enc)]):=by
   have hix:∀d,h.dir k=some d->∀G',Qi (.fl (Aq ms)) [.int (d:Int)] G'=.ok (.int (ms.idxOf d:Nat)) G':=λd hd G'=>by
    have e:Aq ms=(ms.map λ(i:Nat)=>(i:Int)).map D.int:=by simp [Aq]
    rw [e,ZRp (ns:=ms.map λ(i:Nat)=>(i:Int)) (by simp [Ho]) (List.mem_map.mpr ⟨d,hkd d hd,rfl⟩) (by simp;lia),idx_map]
   unfold Uo;by_cases hT:(h.pl k).kd.isT=true
   ·obtain ⟨a,b,ek⟩:∃a b,(h.pl k).kd=.town a b:=by
     cases e:(h.pl k).kd with
     | town a b=>exact ⟨a,b,rfl⟩
     | basin _ _ _=>rw [e] at hT;cases hT
     | mill _=>rw [e] at hT;cases hT
    have e4:∀G',Ai (h.encP (h.pl k)) (.int 4) G'=.ok (.int a) G':=λG'=>by unfold Hs.encP;rw [ek];simp
    have e5:∀G',Ai (h.encP (h.pl k)) (.int 5) G'=.ok (.int b) G':=λG'=>by unfold Hs.encP;rw [ek];simp
    have en:h.need k=a:=by unfold Hs.need;rw [ek]
    have er:h.rank k=b:=by unfold Hs.rank;rw [ek]
    cases hd:h.dir k with
    | none=>simp [By,Hs.Dr hkn,Qa g hkn,hd,dnD,Gw,hT,hgp,Hn hkn,e4,e5,Bo,Di,Eg,ha2,ht,Row.enc,en,er]
    | some d=>simp [By,Hs.Dr hkn,Qa g hkn,hd,dnD,hix d hd,Gw,hT,hgp,Hn hkn,e4,e5,Bo,Di,Eg,ha2,ht,Row.enc,en,er]
   ·have en:h.need k=0:=by
     unfold Hs.need;cases e:(h.pl k).kd with
     | town a b=>rw [e] at hT;exact absurd rfl hT
     | basin _ _ _=>rfl
     | mill _=>rfl
    have er:h.rank k=0:=by
     unfold Hs.rank;cases e:(h.pl k).kd with
     | town a b=>rw [e] at hT;exact absurd rfl hT
     | basin _ _ _=>rfl
     | mill _=>rfl
    cases hd:h.dir k with
    | none=>simp [By,Hs.Dr hkn,Qa g hkn,hd,dnD,Gw,hT,hgp,Hn hkn,Bo,Di,Eg,ha2,ht,Row.enc,en,er]
    | some d=>simp [By,Hs.Dr hkn,Qa g hkn,hd,dnD,hix d hd,Gw,hT,hgp,Hn hkn,Bo,Di,Eg,ha2,ht,Row.enc,en,er]
  show Bg _ _ (.int k::Aq ks) _ _=_;rw [Dk];simp only [Do,R.Dj,List.set,hb,Dt];rw [ih];simp
theorem ZKe (g:GoodH h) (hm:∀k∈ms,k < h.n/\∀d,h.dir k=some d->d∈ms) (hl:ms.length<=40) (hp:G[p]? =some (.lst (tab h.n ca))):
  Y8 [h.enc,.fl (Aq ms),.ref p] G=.ok (.ref G.length) (G++ [.lst ((h.rows ms ca).map Row.enc)]):=by
 obtain ⟨y1,y2,y3,y4,hL⟩:=ZG0 g hm hl hp ms [] none none none none (λk hk=>hk) (by simpa using hl);have hL':Bg (gV 4) Uo (Aq ms) [some h.enc,some (.fl (Aq ms)),some (.ref p),some (.ref G.length),none,none,none,none] (G++ [.lst []])=.nx [some h.enc,some (.fl (Aq ms)),some (.ref p),some (.ref G.length),y1,y2,y3,y4] (G++ [.lst ((h.rows ms ca).map Row.enc)]):=hL;unfold Y8 ZBL;rw [Be];simp [Ao,Es,hL']
theorem Nm (g:GoodH h) (hc:∀k,k < h.n->0<=ca k):Reach (h.rows (h.mem m) ca):=λi r hr=>by
 have hil:i < (h.mem m).length:=by have:=(List.getElem?_eq_some_iff.mp hr).1;simpa [Hs.rows] using this
 have e:r=h.row (h.mem m) ca (h.mem m)[i]:=by unfold Hs.rows at hr;rw [List.getElem?_map,List.getElem?_eq_getElem hil] at hr;simpa using hr.symm
 obtain ⟨hk,hlast⟩:=mem_iff.mp (List.getElem_mem hil);subst e;refine ⟨λd hd=> ?_,hc _ hk,?_,?_⟩
 ·have hd':(h.dir (h.mem m)[i]).map (λd=>(h.mem m).idxOf d)=some d:=hd;cases e:h.dir (h.mem m)[i] with
  | none=>rw [e] at hd';cases hd'
  | some d0=>
   rw [e] at hd';have ed:(h.mem m).idxOf d0=d:=by simpa using hd'
   have hl:=Gx g e;have hmem:d0∈h.mem m:=mem_iff.mpr ⟨hl.2.1,by rw [<-Kv g e];exact hlast⟩;have hlt:=List.idxOf_lt_length_of_mem hmem;have hg:(h.mem m)[(h.mem m).idxOf d0]=d0:=List.getElem_idxOf hlt;subst ed;refine ⟨ZIf O9 hil hlt (by rw [hg];exact hl.1),by simpa [Hs.rows] using hlt⟩
 ·show 0<=h.need _;unfold Hs.need;cases e:(h.pl (h.mem m)[i]).kd with
  | town a b=>exact (g.town _ a b hk e).1
  | basin _ _ _=>exact Int.le_refl _
  | mill _=>exact Int.le_refl _
 ·show 0<=h.rank _;unfold Hs.rank;cases e:(h.pl (h.mem m)[i]).kd with
  | town a b=>exact (g.town _ a b hk e).2
  | basin _ _ _=>exact Int.le_refl _
  | mill _=>exact Int.le_refl _
structure Cs where
 came:Nat->Int
 coming:Nat->Nat->Int
 page:Nat->List Int
 rea:List D
variable {s:Cs}
noncomputable def Je (l:List Int):D:=match l with
 | []=>.non
 | _=>.tup (l.map D.int)
@[simp] theorem ZO7 {n:Nat} {l:List Int}:bel n (Je l)=true:=by
 cases l with
 | nil=>rfl
 | cons a l=>simp only [Je,DL.bel];exact ZGe
noncomputable def cfl (ds:List D):List (Str×D):=(["house","levels","year_turn","came","coming","page","reaches"]:List Str).zip ds
noncomputable def cflds (i n:Nat) (H LV:D) (yt:Int):List (Str×D):=cfl [H,LV,.int yt,.ref (i + 1),.ref (i + (2 + n)),.ref (i + (3 + n)),.ref (i + (4 + n))]
noncomputable def Cm (n:Nat) (pg:Nat->List Int):List D:=(List.range n).map λk=>Je (pg k)
noncomputable def Dw (i n:Nat):List D:=(List.range n).map λk=>D.ref (i + (2 + k))
noncomputable def csT (i n:Nat) (H LV:D) (yt:Int) (s:Cs):DH:=.ins "Course" (cflds i n H LV yt):: .lst (tab n s.came)::((List.range n).map (λk=>DO.lst (tab 5 (s.coming k)))++ [.lst (Dw i n),.lst (Cm n s.page),.lst s.rea])
noncomputable def csH (G:DH) (n:Nat) (H LV:D) (yt:Int) (s:Cs):DH:=G++csT G.length n H LV yt s
theorem ZRt {n:Nat} :(csT i n H LV yt s).length=n + 5:=by simp [csT]
theorem ZIp {n:Nat} :(csH G n H LV yt s).length=G.length + (n + 5):=by unfold csH;rw [List.length_append,ZRt]
section
variable {G:DH} {n:Nat} {H LV:D} {yt:Int} {s:Cs}
theorem Q4 (j:Nat):(csH G n H LV yt s)[G.length + j]? =(csT G.length n H LV yt s)[j]? :=ZAS _ j
theorem Ko:(csH G n H LV yt s)[G.length]? =some (.ins "Course" (cflds G.length n H LV yt)):=Q4 0
theorem Rb:(csH G n H LV yt s)[G.length + 1]? =some (.lst (tab n s.came)):=Q4 1
theorem Vb:(csT i n H LV yt s)[2 + j]? =((List.range n).map (λk=>DO.lst (tab 5 (s.coming k)))++ [.lst (Dw i n),.lst (Cm n s.page),.lst s.rea])[j]? :=by
 have e:2 + j=j + 1 + 1:=by lia
 rw [e]
 rfl
theorem ZEq (hk:k < n):(csH G n H LV yt s)[G.length + (2 + k)]? =some (.lst (tab 5 (s.coming k))):=by
 rw [Q4,Vb,List.getElem?_append_left (by simpa using hk),List.getElem?_map,List.getElem?_range hk]
 rfl
theorem Vh:(csH G n H LV yt s)[G.length + (2 + n)]? =some (.lst (Dw G.length n)):=by rw [Q4,Vb,List.getElem?_append_right (by simp)];simp
theorem M6:(csH G n H LV yt s)[G.length + (3 + n)]? =some (.lst (Cm n s.page)):=by
 have e:3 + n=2 + (n + 1):=by lia
 rw [e,Q4,Vb,List.getElem?_append_right (by simp)];simp
theorem csHe:(csH G n H LV yt s)[G.length + (4 + n)]? =some (.lst s.rea):=by
 have e:4 + n=2 + (n + 2):=by lia
 rw [e,Q4,Vb,List.getElem?_append_right (by simp)];simp
theorem Y4 (j:Nat) (o:DO):(csH G n H LV yt s).set (G.length + j) o=G++(csT G.length n H LV yt s).set j o:=ZET _ j o
theorem csS1:(csH G n H LV yt s).set (G.length + 1) (.lst (tab n ca))=csH G n H LV yt {s with came:=ca}:=Y4 1 _
noncomputable def upd2 (co:Nat->Nat->Int) (k:Nat) (r:Nat->Int):Nat->Nat->Int:=λi=>if i=k then r else co i
theorem ZES {o:DO}:(csT i n H LV yt s).set (2 + j) o=.ins "Course" (cflds i n H LV yt):: .lst (tab n s.came)::((List.range n).map (λk=>DO.lst (tab 5 (s.coming k)))++ [DO.lst (Dw i n),DO.lst (Cm n s.page),DO.lst s.rea]).set j o:=by
 have e:2 + j=j + 1 + 1:=by lia
 rw [e]
 rfl
theorem csSr (hk:k < n) {r:Nat->Int}:(csH G n H LV yt s).set (G.length + (2 + k)) (.lst (tab 5 r))=csH G n H LV yt {s with coming:=upd2 s.coming k r}:=by
 rw [Y4,ZES,List.set_append_left _ _ (by simpa using hk)];unfold csH csT
 congr 3
 congr 1
 refine List.ext_getElem? λi=> ?_
 by_cases hi:i < n
 ·by_cases e:k=i
  ·subst e;rw [List.getElem?_set_self (by simpa using hi),List.getElem?_map,List.getElem?_range hi];simp [upd2]
  ·rw [List.getElem?_set_ne e,List.getElem?_map,List.getElem?_range hi,List.getElem?_map,List.getElem?_range hi];have:i≠k:=λz=>e z.symm
   simp [upd2,this]
 ·rw [List.getElem?_eq_none (by simp;lia),List.getElem?_eq_none (by simp;lia)]
theorem Zk:(csH G n H LV yt s).set (G.length + (3 + n)) (.lst (Cm n pg))=csH G n H LV yt {s with page:=pg}:=by
 have e:3 + n=2 + (n + 1):=by lia
 rw [e,Y4,ZES,List.set_append_right _ _ (by simp)];unfold csH csT;simp
theorem csSe {re:List D}:(csH G n H LV yt s).set (G.length + (4 + n)) (.lst re)=csH G n H LV yt {s with rea:=re}:=by
 have e:4 + n=2 + (n + 2):=by lia
 rw [e,Y4,ZES,List.set_append_right _ _ (by simp)];unfold csH csT;simp
theorem Ka:Jv "Course" "house" (.ref G.length) (csH G n H LV yt s)=.ok H (csH G n H LV yt s):=O8 Ko rfl
theorem ZGJ:Jv "Course" "levels" (.ref G.length) (csH G n H LV yt s)=.ok LV (csH G n H LV yt s):=O8 Ko rfl
theorem ZH0:Jv "Course" "year_turn" (.ref G.length) (csH G n H LV yt s)=.ok (.int yt) (csH G n H LV yt s):=O8 Ko rfl
theorem Z1:Jv "Course" "came" (.ref G.length) (csH G n H LV yt s)=.ok (.ref (G.length + 1)) (csH G n H LV yt s):=O8 Ko rfl
theorem ZJt:Jv "Course" "coming" (.ref G.length) (csH G n H LV yt s)=.ok (.ref (G.length + (2 + n))) (csH G n H LV yt s):=O8 Ko rfl
theorem Ou:Jv "Course" "page" (.ref G.length) (csH G n H LV yt s)=.ok (.ref (G.length + (3 + n))) (csH G n H LV yt s):=O8 Ko rfl
theorem ZOt:Jv "Course" "reaches" (.ref G.length) (csH G n H LV yt s)=.ok (.ref (G.length + (4 + n))) (csH G n H LV yt s):=O8 Ko rfl
theorem Kg {m:Str} {F:List D->DH->R D} {t:DA} (hm:∀i,(cflds i n H LV yt).lookup m=none):Yy "Course" m F t S (.ref G.length) (csH G n H LV yt s)=(t S (csH G n H LV yt s)).bind λds G2=>F (.ref G.length::ds) G2:=ZK5 Ko (hm _)
theorem ZFn:∀i,(cflds i n H LV yt).lookup ("send":Str)=none:=λ_=>rfl
theorem ZDX:∀i,(cflds i n H LV yt).lookup ("send_down":Str)=none:=λ_=>rfl
theorem ZKo:∀i,(cflds i n H LV yt).lookup ("go_basin":Str)=none:=λ_=>rfl
theorem ZPi:∀i,(cflds i n H LV yt).lookup ("go_reach":Str)=none:=λ_=>rfl
theorem ZNA:∀i,(cflds i n H LV yt).lookup ("go":Str)=none:=λ_=>rfl
theorem ZQp:∀i,(cflds i n H LV yt).lookup ("state_behind":Str)=none:=λ_=>rfl
theorem Kz {s':Cs} {d:D} (hb:∀m,bel m d=true):tidy (csH G n H LV yt s) (.ok d (csH G n H LV yt s'))=.ok d (csH G n H LV yt s'):=ZMa (by rw [ZIp,ZIp]) (hb _)
theorem ZLm (hk:k < n):atI (Dw i n) (k:Int)=some (.ref (i + (2 + k))):=Ex rfl (by unfold Dw;rw [List.getElem?_map,List.getElem?_range hk];rfl)
theorem ZM6 {l:List Int}:(Cm n pg).set k (Je l)=Cm n λi=>if i=k then l else pg i:=by
 unfold Cm;refine List.ext_getElem? λi=> ?_
 by_cases hi:i < n
 ·by_cases e:k=i
  ·subst e;rw [List.getElem?_set_self (by simpa using hi),List.getElem?_map,List.getElem?_range hi];simp
  ·rw [List.getElem?_set_ne e,List.getElem?_map,List.getElem?_range hi,List.getElem?_map,List.getElem?_range hi];have:i≠k:=λz=>e z.symm
   simp [this]
 ·rw [List.getElem?_eq_none (by simp;lia),List.getElem?_eq_none (by simp;lia)]
@[simp] theorem ZDn:(Cm n pg).length=n:=by simp [Cm]
noncomputable def Cs.send (s:Cs) (to dl:Nat) (c:Int):Cs:=if dl=0 then {s with came:=fset s.came to (s.came to + c)} else {s with coming:=upd2 s.coming to (fset (s.coming to) (dl - 1) (s.coming to (dl - 1) + c))}
theorem ZJw (ht:to < n) (hd:dl<=5):Ul [.ref G.length,.int to,.int dl,.int c] (csH G n H LV yt s)=.ok .non (csH G n H LV yt (s.send to dl c)):=by
 unfold Ul Tu;rw [Be];by_cases h0:dl=0
 ·subst h0;simp [Z1,Vi Rb (Hn ht),Rb,Jd,ht,Q3,csS1,Cs.send,Kz]
 ·have e:((dl:Int) - 1)=((dl - 1:Nat):Int):=by lia
  have h1:dl - 1 < 5:=by lia
  simp [h0,ZJt,Vh,ZLm ht,e,Vi (ZEq ht) (Hn h1),ZEq ht,Jd,h1,Q3,csSr ht,Cs.send,Kz]
end
noncomputable def Hs.Fi (h:Hs) (s:Cs) (k:Nat) (c:Int):Cs:=match h.dn k with
 | none=>s
 | some d=>s.send d (h.pl k).dl c
section
variable {G:DH} {h:Hs} {lv:Nat->Int} {yt:Int} {s:Cs}
theorem ZFW (g:GoodH h) (hk:k < h.n) :T5 [.ref G.length,.int k,.int c] (csH G h.n h.enc LV yt s)=.ok .non (csH G h.n h.enc LV yt (h.Fi s k c)):=by
 unfold T5 Sg;rw [Be];cases hd:h.dn k with
 | none=>simp [Ka,O2 g hk,hd,dnD,Hs.Fi,Kz]
 | some d=>
  have hl:=g.dn k d hk hd;simp [Ka,O2 g hk,hd,dnD,Kg ZFn,By,Hs.Dr hk,ZJw hl.2 (g.dl k hk),Hs.Fi,Kz]
theorem ZB5 {n:Nat} {a b d e f:Int}:(Cm n pg).set k (.tup [.int a,.int b,.int c,.int d,.int e,.int f])=Cm n λi=>if i=k then [a,b,c,d,e,f] else pg i:=ZM6 (l:= [a,b,c,d,e,f])
noncomputable def Hs.basin (h:Hs) (yt:Int) (lv:Nat->Int) (s:Cs) (k:Nat):Cs:=match (h.pl k).kd with
 | .basin brim rule pump=>
  let w:=lv k + s.came k;let st:=held yt rule [];let stays:=w - rv w st - pm w st;let lies:=min stays brim;let s1:Cs:={s with page:=λi=>if i=k then [s.came k,0,stays - lies,rv w st,pm w st,lies] else s.page i};let s2:=h.Fi s1 k (rv w st + (stays - lies))
  match pump with
  | none=>s2
  | some (to,dl,_)=>s2.send to dl (pm w st)
 | _=>s
theorem ZOp (g:GoodH h) (hk:k < h.n) (hB:(h.pl k).kd.isB=true):Vs [.ref G.length,.int k] (csH G h.n h.enc (.tup (tab h.n lv)) yt s)=.ok .non (csH G h.n h.enc (.tup (tab h.n lv)) yt (h.basin yt lv s k)):=by
 obtain ⟨brim,rule,pump,ek⟩:∃a b c,(h.pl k).kd=.basin a b c:=by
  cases e:(h.pl k).kd with
  | basin a b c=>exact ⟨a,b,c,rfl⟩
  | town _ _=>rw [e] at hB;cases hB
  | mill _=>rw [e] at hB;cases hB
 have e4:∀G',Ai (h.encP (h.pl k)) (.int 4) G'=.ok (.int brim) G':=λG'=>by unfold Hs.encP;rw [ek];simp
 have e5:∀G',Ai (h.encP (h.pl k)) (.int 5) G'=.ok (.tup (rule.map Cy)) G':=λG'=>by unfold Hs.encP;rw [ek];simp
 have e6:∀G',Ai (h.encP (h.pl k)) (.int 6) G'=.ok (h.Mu pump) G':=λG'=>by unfold Hs.encP;rw [ek];simp
 simp only [Hs.basin,ek];unfold Vs X6;rw [Be];cases hp:pump with
 | none=>simp [Ka,By,Hs.Dr hk,Z1,Rb,Hn hk,e5,ZH0,c_at,ZGJ,ZHe,e4,Bo,Ou,M6,Jd,hk,ZB5,Zk,Kg ZDX,ZFW g hk,e6,hp,Hs.Mu,Kz]
 | some q=>
  obtain ⟨to,dl,mo⟩:=q;have hl:=g.pump k brim rule to dl mo hk (by rw [ek,hp]);simp [Ka,By,Hs.Dr hk,Z1,Rb,Hn hk,e5,ZH0,c_at,ZGJ,ZHe,e4,Bo,Ou,M6,Jd,hk,ZB5,Zk,Kg ZDX,ZFW g hk,e6,hp,Hs.Mu,Kg ZFn,ZGy g hl.1,ZJw hl.1 hl.2.2,Kz]
end
noncomputable def z3 (ms:List Nat) (T L:Nat->Int):List D:=(List.range ms.length).map λi=>D.tup [.int (ms.getD i 0:Nat),.int (T i),.int (L i)]
theorem ZQa {L:Nat->Int} (j:Nat) (G:DH):Hi [.fl (Aq ms),.fl (tab ms.length T),.fl (tab ms.length L)] j G=some (z3 ms T L)[j]? :=by
 unfold Hi z3;by_cases hj:j < ms.length
 ·have e1:(Aq ms)[j]? =some (.int (ms.getD j 0:Nat)):=by unfold Aq;rw [List.getElem?_map,List.getElem?_eq_getElem hj];simp [List.getD_eq_getElem?_getD,List.getElem?_eq_getElem hj]
  simp [Hv,e1,Lk hj,List.getElem?_range hj]
 ·have e1:(Aq ms)[j]? =none:=List.getElem?_eq_none (by simp;lia);have e2:(List.range ms.length)[j]? =none:=List.getElem?_eq_none (by simp;lia);simp [Hv,e1,e2]
noncomputable def rrow (T L:Nat->Int) (i:Nat):List Int:= [T i + L i,T i,0,L i,0,0]
noncomputable def pgM (ms:List Nat) (T L:Nat->Int) (pg:Nat->List Int) (i:Nat):Nat->List Int:=λk=>if k∈ms.take i then rrow T L (ms.idxOf k) else pg k
theorem ZQr {L:Nat->Int} :pgM ms T L pg 0=pg:=by funext k;simp [pgM]
theorem ZIw (nd:ms.Nodup) (hi:i < ms.length) (hj:j < ms.length) (e:ms[i]=ms[j]):i=j:=by
 rcases Nat.lt_trichotomy i j with z | z | z
 ·exact absurd e (List.pairwise_iff_getElem.mp nd i j hi hj z)
 ·exact z
 ·exact absurd e.symm (List.pairwise_iff_getElem.mp nd j i hj hi z)
theorem Xj (nd:ms.Nodup) (hi:i < ms.length):ms.idxOf ms[i]=i:=by have hl:=List.idxOf_lt_length_of_mem (List.getElem_mem hi);exact ZIw nd hl hi (List.getElem_idxOf hl)
theorem ZL2 (nd:ms.Nodup) {L:Nat->Int} (hi:i < ms.length):pgM ms T L pg (i + 1)=λk=>if k=ms.getD i 0 then rrow T L i else pgM ms T L pg i k:=by
 have eg:ms.getD i 0=ms[i]:=by simp [List.getD_eq_getElem?_getD,List.getElem?_eq_getElem hi]
 funext k;rw [eg];unfold pgM;rw [List.take_succ_eq_append_getElem hi];by_cases e:k=ms[i]
 ·subst e;rw [if_pos rfl,if_pos (List.mem_append.mpr (.inr (List.mem_singleton.mpr rfl))),Xj nd hi]
 ·rw [if_neg e];have:(k∈ms.take i++ [ms[i]])↔k∈ms.take i:=by rw [List.mem_append,List.mem_singleton];exact ⟨λh=>h.elim id λz=>absurd z e,.inl⟩
  simp only [this]
section
variable {G:DH} {h:Hs} {LV:D} {yt:Int}
theorem ZId (g:GoodH h) (hms:∀k∈ms,k < h.n) (nd:ms.Nodup) (hlast:ms.getLast?=some m) {T L:Nat->Int} {s:Cs} {r t:D}:∀(q i:Nat) (x y z:Option D),i + q=ms.length->0 < q->∃x' y' z',
  Bg (Cd 3 (Ar (gV 4) (Ar (gV 5) (Ar (gV 6) Cj)))) M9 ((z3 ms T L).drop i) [some (.ref G.length),some (.fl (Aq ms)),some r,some t,x,y,z] (csH G h.n h.enc LV yt {s with page:=pgM ms T L s.page i})=
   .nx [some (.ref G.length),some (.fl (Aq ms)),some r,some t,x',y',z'] (csH G h.n h.enc LV yt (h.Fi {s with page:=pgM ms T L s.page ms.length} m (L (ms.length - 1))))
 | 0,i,x,y,z,e,h0=>by lia
 | q + 1,i,x,y,z,e,h0=>by
  have hi:i < ms.length:=by lia
  have eg:ms.getD i 0=ms[i]:=by simp [List.getD_eq_getElem?_getD,List.getElem?_eq_getElem hi]
  have hk:ms.getD i 0 < h.n:=by rw [eg];exact hms _ (List.getElem_mem hi)
  have hmn:m < h.n:=hms m (List.mem_of_getLast? hlast);have e0:(z3 ms T L).drop i=.tup [.int (ms.getD i 0:Nat),.int (T i),.int (L i)]::(z3 ms T L).drop (i + 1):=by rw [List.drop_eq_getElem_cons (by simp [z3];exact hi)];simp [z3]
  have hneg:atI (Aq ms) (-1)=some (.int (m:Nat)):=by
   have hl:0 < ms.length:=by lia
   rw [ZKr (by decide) (by simp;lia)]
   congr 1
   have e3:((-1:Int) + ((Aq ms).length:Int)).toNat=ms.length - 1:=by simp;lia
   simp only [e3];unfold Aq;rw [List.getElem_map];have e4:ms[ms.length - 1]'(by lia)=m:=by have:=List.getLast?_eq_getElem? (l:=ms);rw [hlast,List.getElem?_eq_getElem (by lia)] at this;exact (Option.some.inj this).symm
   rw [e4]
  have hpg:(λk=>if k=ms.getD i 0 then [T i + L i,T i,0,L i,0,0] else pgM ms T L s.page i k)=pgM ms T L s.page (i + 1):=(ZL2 nd hi).symm;rw [e0,Dk];cases q with
  | zero=>
   have ei:i=ms.length - 1:=by lia
   have em:ms.getD i 0=m:=by have:=List.getLast?_eq_getElem? (l:=ms);rw [hlast,List.getElem?_eq_getElem (by lia)] at this;rw [eg];subst ei;exact (Option.some.inj this).symm
   have hb:M9 [some (.ref G.length),some (.fl (Aq ms)),some r,some t,some (.int (ms.getD i 0:Nat)),some (.int (T i)),some (.int (L i))] (csH G h.n h.enc LV yt {s with page:=pgM ms T L s.page i})=
     .nx [some (.ref G.length),some (.fl (Aq ms)),some r,some t,some (.int (ms.getD i 0:Nat)),some (.int (T i)),some (.int (L i))] (csH G h.n h.enc LV yt (h.Fi {s with page:=pgM ms T L s.page ms.length} m (L (ms.length - 1)))):=by
    have e5:i + 1=ms.length:=by lia
    rw [e5] at hpg;unfold M9;simp only [em] at hk hpg ⊢;simp [Bo,Ou,M6,Jd,hk,ZB5,hpg,Zk,hneg,Kg ZDX,ZFW g hmn,<-ei]
   refine ⟨some (.int (ms.getD i 0:Nat)),some (.int (T i)),some (.int (L i)),?_⟩;rw [List.drop_of_length_le (by simp [z3];lia)];simp only [Xl,Xc,ZBm,Do,R.Lg,R.Dj,List.set,hb,Dt,List.length_cons,List.length_nil,Nat.reduceAdd,if_true,Ec]
  | succ q=>
   have hne:ms.getD i 0≠m:=λz=>by have h1:=List.getLast?_eq_getElem? (l:=ms);rw [hlast,List.getElem?_eq_getElem (by lia)] at h1;have h2:=Option.some.inj h1;rw [eg,h2] at z;have:=ZIw nd hi (by lia) z;lia
   have hne':¬((ms.getD i 0:Nat):Int)=(m:Int):=by lia
   have hb:M9 [some (.ref G.length),some (.fl (Aq ms)),some r,some t,some (.int (ms.getD i 0:Nat)),some (.int (T i)),some (.int (L i))] (csH G h.n h.enc LV yt {s with page:=pgM ms T L s.page i})=
     .nx [some (.ref G.length),some (.fl (Aq ms)),some r,some t,some (.int (ms.getD i 0:Nat)),some (.int (T i)),some (.int (L i))] (csH G h.n h.enc LV yt {s with page:=pgM ms T L s.page (i + 1)}):=by
    unfold M9;generalize ms.getD i 0=a at hk hpg hne';simp [Bo,Ou,M6,Jd,hk,ZB5,hpg,Zk,hneg,hne']
   obtain ⟨x',y',z',ih⟩:=ZId g hms nd hlast (T:=T) (L:=L) (s:=s) (r:=r) (t:=t) (q + 1) (i + 1) (some (.int (ms.getD i 0:Nat))) (some (.int (T i))) (some (.int (L i))) (by lia) (by lia);refine ⟨x',y',z',?_⟩;simp only [Xl,Xc,ZBm,Do,R.Lg,R.Dj,List.set,hb,Dt,List.length_cons,List.length_nil,Nat.reduceAdd,if_true];exact ih
noncomputable def Hs.Hl (h:Hs) (s:Cs) (m:Nat):Nat->Int:=shr (h.rows (h.mem m) s.came)
noncomputable def Hs.H9 (h:Hs) (s:Cs) (m:Nat):Nat->Int:=gath (h.rows (h.mem m) s.came) λi=>col Row.water (h.rows (h.mem m) s.came) i - h.Hl s m i
noncomputable def Hs.reach (h:Hs) (s:Cs) (m:Nat):Cs:=
 let s1:=h.Fi {s with page:=pgM (h.mem m) (h.Hl s m) (h.H9 s m) s.page (h.mem m).length} m (h.H9 s m ((h.mem m).length - 1))
 {s1 with rea:=s1.rea++ [.tup [.fl (Aq (h.mem m)),.fl ((h.rows (h.mem m) s.came).map Row.enc)]]}
theorem Wg {n:Nat} (hb:∀m,bels m ds=true):freeze (csH G n H LV yt s) (.ok (.ref (csH G n H LV yt s).length) (csH G n H LV yt s++ [.lst ds]))=.ok (.fl ds) (csH G n H LV yt s):=Gn (hb _)
theorem Ji:(h.rows ms ca).length=ms.length:=by simp [Hs.rows]
theorem ZNo (g:GoodH h) (hm:m < h.n) (hl:h.last m=m) (hc:∀k,k < h.n->0<=s.came k) (hre:s.rea.length<=100):ZBK [.ref G.length,.fl (Aq (h.mem m))] (csH G h.n h.enc LV yt s)=.ok .non (csH G h.n h.enc LV yt (h.reach s m)):=by
 have hR:=Nm g (m:=m) hc;have hlen:(h.rows (h.mem m) s.came).length<=40:=by have:=ZJz (h:=h) (m:=m);have:=g.len;rw [Ji];lia
 have hmem:m∈h.mem m:=mem_iff.mpr ⟨hm,hl⟩;have hpos:0 < (h.mem m).length:=List.length_pos_of_mem hmem;have nd:(h.mem m).Nodup:=(O9 (h:=h) (m:=m)).imp λhab=>Nat.ne_of_lt hab
 have cr:=ZKe g (ms:=h.mem m) (λk hk=>⟨(mem_iff.mp hk).1,λd hd=>by have h1:=mem_iff.mp hk;have h2:=Gx g hd;exact mem_iff.mpr ⟨h2.2.1,by rw [<-Kv g hd];exact h1.2⟩⟩) (by rw [<-Ji (h:=h) (ca:=s.came)];exact hlen) (p:=G.length + 1) (ca:=s.came) (G:=csH G h.n h.enc LV yt s) Rb
 have cs:=ZPU hR hlen (csH G h.n h.enc LV yt s);have cp:=ZFm hR hlen (t:=.fl (tab (h.rows (h.mem m) s.came).length (shr (h.rows (h.mem m) s.came)))) (T:=shr (h.rows (h.mem m) s.came)) (G:=csH G h.n h.enc LV yt s) rfl;rw [Ji] at cs cp;obtain ⟨x',y',z',hL⟩:=ZId (G:=G) (LV:=LV) (yt:=yt) g (ms:=h.mem m) (λk hk=>(mem_iff.mp hk).1) nd (ZF3 g hm hl) (T:=h.Hl s m) (L:=h.H9 s m) (s:=s) (r:=.fl ((h.rows (h.mem m) s.came).map Row.enc)) (t:=.fl (tab (h.mem m).length (h.Hl s m))) (h.mem m).length 0 none none none (by lia) hpos
 rw [ZQr,List.drop_zero] at hL;have hz:∀S G',Ef (Hi [.fl (Aq (h.mem m)),.fl (tab (h.mem m).length (h.Hl s m)),.fl (tab (h.mem m).length (h.H9 s m))]) (Cd 3 (Ar (gV 4) (Ar (gV 5) (Ar (gV 6) Cj)))) M9 (h.mem m).length 0 S G'=Bg (Cd 3 (Ar (gV 4) (Ar (gV 5) (Ar (gV 6) Cj)))) M9 (z3 (h.mem m) (h.Hl s m) (h.H9 s m)) S G':=λS G'=>Zv ZQa (by simp [z3])
 have eT:shr (h.rows (h.mem m) s.came)=h.Hl s m:=rfl;have eL:gath (h.rows (h.mem m) s.came) (λi=>col Row.water (h.rows (h.mem m) s.came) i - h.Hl s m i)=h.H9 s m:=rfl;rw [eT] at cs cp;rw [eL] at cp;have hre2:∀s':Cs,s'.rea=s.rea->s'.rea.length < 1000000:=λs' e=>by rw [e];lia
 have ers:∀s':Cs,∀k c,(h.Fi s' k c).rea=s'.rea:=λs' k c=>by
  unfold Hs.Fi;cases h.dn k with
  | none=>rfl
  | some d=>simp only [Cs.send];split <;> rfl
 have el1:=hre2 _ (ers {s with page:=pgM (h.mem m) (h.Hl s m) (h.H9 s m) s.page (h.mem m).length} m (h.H9 s m ((h.mem m).length - 1)));simp only [Hs.reach];generalize h.Fi {s with page:=pgM (h.mem m) (h.Hl s m) (h.H9 s m) s.page (h.mem m).length} m (h.H9 s m ((h.mem m).length - 1))=s1 at hL el1;have hS:{s with page:=s.page}=s:=rfl;have ht:∀G',tidy G' (.ok (.tup [.fl (Aq (h.mem m)),.fl ((h.rows (h.mem m) s.came).map Row.enc)]) G')=.ok (.tup [.fl (Aq (h.mem m)),.fl ((h.rows (h.mem m) s.came).map Row.enc)]) G':=λG'=>Bd (by simp)
 unfold ZBK Z6;rw [Be];simp [Ka,Z1,cr,Wg,cs,cp,Ig,Ku,lenOf,hz,hL,Bo,ht,ZOt,csHe,el1,csSe,Kz]
end
noncomputable def Cs.NN (n:Nat) (s:Cs):Prop:=(∀k,k < n->0<=s.came k)/\∀k j,k < n->j < 5->0<=s.coming k j
theorem Cs.NN.send {n:Nat} (h:s.NN n) (hc:0<=c):(s.send to dl c).NN n:=by
 unfold Cs.send;split
 ·refine ⟨λk hk=> ?_,h.2⟩;simp only [fset];split
  ·rename_i e;subst e;have:=h.1 k hk;lia
  ·exact h.1 k hk
 ·refine ⟨h.1,λk j hk hj=> ?_⟩;simp only [upd2];split
  ·rename_i e;subst e;simp only [fset];split
   ·rename_i e2;subst e2;have:=h.2 k _ hk hj;lia
   ·exact h.2 k j hk hj
  ·exact h.2 k j hk hj
theorem Cs.NN.down {n:Nat} (h:s.NN n) {hs:Hs} (hc:0<=c):(hs.Fi s k c).NN n:=by
 unfold Hs.Fi;cases hs.dn k with
 | none=>exact h
 | some d=>exact h.send hc
theorem ZGL {s:Stp}:0<=cub w s:=by unfold cub;lia
theorem ZDm {w:Int}:∀{st:List Stp},0<=rv w st
 | []=>Int.le_refl _
 | s::r=>by
  have h1:=ZDm (w:=w) (st:=r);have h2:=ZGL (w:=w) (s:=s);unfold rv
  split <;> lia
theorem ZCF {w:Int}:∀{st:List Stp},0<=pm w st
 | []=>Int.le_refl _
 | s::r=>by
  have h1:=ZCF (w:=w) (st:=r);have h2:=ZGL (w:=w) (s:=s);unfold pm
  split <;> lia
theorem Cs.NN.page {n:Nat} (h:s.NN n) :({s with page:=pg}:Cs).NN n:=h
theorem Vf:(s.send to dl c).rea=s.rea/\(s.send to dl c).page=s.page:=by
 unfold Cs.send
 split <;> exact ⟨rfl,rfl⟩
theorem Lh:(h.Fi s k c).rea=s.rea/\(h.Fi s k c).page=s.page:=by
 unfold Hs.Fi;cases h.dn k with
 | none=>exact ⟨rfl,rfl⟩
 | some d=>exact Vf
section
variable {h:Hs} {yt:Int} {lv:Nat->Int} {s:Cs}
theorem ZQD (hs:s.NN h.n):(h.basin yt lv s k).NN h.n:=by
 unfold Hs.basin;cases (h.pl k).kd with
 | basin brim rule pump=>
  simp only;have a1:=ZDm (w:=lv k + s.came k) (st:=held yt rule []);have a2:=ZCF (w:=lv k + s.came k) (st:=held yt rule []);cases pump with
  | none=>exact hs.page.down (by lia)
  | some q=>
   obtain ⟨to,dl,mo⟩:=q;exact Cs.NN.send (hs.page.down (by lia)) a2
 | town _ _=>exact hs
 | mill _=>exact hs
theorem ZLM:(h.basin yt lv s k).rea=s.rea:=by
 unfold Hs.basin;cases (h.pl k).kd with
 | basin brim rule pump=>
  simp only;cases pump with
  | none=>rw [Lh.1]
  | some q=>obtain ⟨to,dl,mo⟩:=q;simp only;rw [Vf.1,Lh.1]
 | town _ _=>rfl
 | mill _=>rfl
theorem ZEk (hB:(h.pl k).kd.isB=true):((h.basin yt lv s k).page k).length=6/\∀i,i≠k->(h.basin yt lv s k).page i=s.page i:=by
 unfold Hs.basin;cases e:(h.pl k).kd with
 | basin brim rule pump=>
  simp only;cases pump with
  | none=>
   simp only;rw [Lh.2];exact ⟨by simp,λi hi=>by simp [hi]⟩
  | some q=>
   obtain ⟨to,dl,mo⟩:=q;simp only;rw [Vf.2,Lh.2];exact ⟨by simp,λi hi=>by simp [hi]⟩
 | town _ _=>rw [e] at hB;cases hB
 | mill _=>rw [e] at hB;cases hB
theorem ZPz (g:GoodH h) (hs:s.NN h.n) (hi:i < (h.mem m).length):0<=h.H9 s m i:=by have hR:=Nm g (m:=m) hs.1;have hsi:=Rp hR;have:=hsi.p0 i (by rw [Ji];exact hi);rw [hsi.pg] at this;exact this
theorem ZRI (g:GoodH h) (hm:m < h.n) (hl:h.last m=m) (hs:s.NN h.n):(h.reach s m).NN h.n:=by have hpos:0 < (h.mem m).length:=List.length_pos_of_mem (mem_iff.mpr ⟨hm,hl⟩);unfold Hs.reach;exact Cs.NN.down (s:={s with page:=pgM (h.mem m) (h.Hl s m) (h.H9 s m) s.page (h.mem m).length}) hs.page (ZPz g hs (by lia))
theorem ZLd:(h.reach s m).rea.length=s.rea.length + 1:=by unfold Hs.reach;simp only [List.length_append,List.length_singleton];rw [Lh.1]
theorem ZFK:(h.reach s m).page k=if k∈h.mem m then rrow (h.Hl s m) (h.H9 s m) ((h.mem m).idxOf k) else s.page k:=by unfold Hs.reach;simp only;rw [Lh.2];unfold pgM;rw [List.take_of_length_le (Nat.le_refl _)]
noncomputable def Hs.step (h:Hs) (yt:Int) (lv:Nat->Int) (s:Cs) (k:Nat):Cs:=if (h.pl k).kd.isB=true then h.basin yt lv s k else if h.last k=k then h.reach s k else s
noncomputable def Hs.goF (h:Hs) (yt:Int) (lv:Nat->Int):Nat->Nat->Cs->Cs
 | 0,_,s=>s
 | m + 1,k,s=>h.goF yt lv m (k + 1) (h.step yt lv s k)
theorem ZI1 (g:GoodH h) (hk:k < h.n) (hs:s.NN h.n):(h.step yt lv s k).NN h.n:=by
 unfold Hs.step;split
 ·exact ZQD hs
 ·split
  ·rename_i e;exact ZRI g hk e hs
  ·exact hs
theorem ZO3:(h.step yt lv s k).rea.length<=s.rea.length + 1:=by
 unfold Hs.step;split
 ·rw [ZLM];lia
 ·split
  ·rw [ZLd];lia
  ·lia
end
section
variable {G:DH} {h:Hs} {yt:Int} {lv:Nat->Int}
theorem ZAZ {β:Type} {f f':α->Option β}:∀{l:List α},(∀x∈l,f x=f' x)->l.filterMap f=l.filterMap f'
 | [],_=>rfl
 | x::l,hl=>by rw [List.filterMap_cons,List.filterMap_cons,hl x List.mem_cons_self,ZAZ λy hy=>hl y (List.mem_cons_of_mem _ hy)]
theorem ZLU (hS:Bf 2 [2] S= [none,none,some (.int k)]) (G:DH):Dz (Gd 0 (.fl (tab h.n λi=>(h.last i:Int)))) (Cd 2 (Ar (gV 0) (Ar (gV 1) Cj))) V1 Yi (Bf 2 [2] S) h.n 0 G=.ok (Aq (h.mem k)) G:=by
 have he:Dy (tab h.n λi=>(h.last i:Int))=(List.range h.n).map λ(i:Nat)=>D.tup [.int (i:Int),.int (h.last i:Int)]:=by refine List.ext_getElem (by simp [Dy]) λi h1 h2=>by simp [Dy,tab]
 rw [ZAk (F:=λd=>match d with | .tup [.int i,.int e]=>if e=(k:Int) then some (.int i) else none | _=>none) (λj=>ZB1 j G) (λx hx=> ?_) (by rw [K9];simp)]
 ·congr 1
  rw [he,List.filterMap_map];unfold Hs.mem Aq;rw [<-List.filterMap_eq_filter,List.map_filterMap];refine ZAZ λi _=> ?_
  by_cases e:h.last i=k
  ·subst e;simp [Option.guard]
  ·have e2:¬((h.last i:Int)=(k:Int)):=by lia
   simp [Option.guard,e,e2]
 ·rw [he] at hx;obtain ⟨i,_,rfl⟩:=List.mem_map.mp hx;refine ⟨[some (.int i),some (.int (h.last i:Int)),some (.int k)],by rw [hS];simp,?_⟩;by_cases e:h.last i=k
  ·refine .inr ⟨by unfold V1;simp [e],.int i,by unfold Yi;simp,by simp [e]⟩
  ·have e2:¬((h.last i:Int)=(k:Int)):=by lia
   exact .inl ⟨by unfold V1;simp [e2],by simp [e2]⟩
theorem ZIb (g:GoodH h):∀(m k:Nat) (s:Cs) (x y:Option D),k + m=h.n->s.NN h.n->s.rea.length<=k->∃x' y',
  Bg (Cd 2 (Ar (gV 2) (Ar (gV 3) Cj))) Q6 ((Dy (tab h.n λi=>(h.last i:Int))).drop k) [some (.ref G.length),some (.fl (tab h.n λi=>(h.last i:Int))),x,y] (csH G h.n h.enc (.tup (tab h.n lv)) yt s)=
   .nx [some (.ref G.length),some (.fl (tab h.n λi=>(h.last i:Int))),x',y'] (csH G h.n h.enc (.tup (tab h.n lv)) yt (h.goF yt lv m k s))
 | 0,k,s,x,y,e,_,_=>⟨x,y,by rw [List.drop_of_length_le (by rw [K9];simp;lia),Ec];rfl⟩
 | m + 1,k,s,x,y,e,hs,hre=>by
  have hk:k < h.n:=by lia
  have hn:=g.len;have hre2:=ZO3 (h:=h) (yt:=yt) (lv:=lv) (s:=s) (k:=k);obtain ⟨x',y',ih⟩:=ZIb g m (k + 1) (h.step yt lv s k) (some (.int k)) (some (.int (h.last k:Int))) (by lia) (ZI1 g hk hs) (by lia);refine ⟨x',y',?_⟩;have e0:(Dy (tab h.n λi=>(h.last i:Int))).drop k=.tup [.int k,.int (h.last k:Int)]::(Dy (tab h.n λi=>(h.last i:Int))).drop (k + 1):=by rw [List.drop_eq_getElem_cons (by rw [K9];simpa using hk)];simp [Dy,tab]
  have hml:(h.mem k).length<=1000000:=by have:=ZJz (h:=h) (m:=k);lia
  have hb:Q6 [some (.ref G.length),some (.fl (tab h.n λi=>(h.last i:Int))),some (.int k),some (.int (h.last k:Int))] (csH G h.n h.enc (.tup (tab h.n lv)) yt s)=
    .nx [some (.ref G.length),some (.fl (tab h.n λi=>(h.last i:Int))),some (.int k),some (.int (h.last k:Int))] (csH G h.n h.enc (.tup (tab h.n lv)) yt (h.step yt lv s k)):=by
   unfold Q6 Hs.step;by_cases hB:(h.pl k).kd.isB=true
   ·simp [Ka,By,Hs.Dr hk,G7,hB,Kg ZKo,ZOp g hk hB]
   ·by_cases hl:h.last k=k
    ·have hc:Dz (Gd 0 (.fl (tab h.n λi=>(h.last i:Int)))) (Cd 2 (Ar (gV 0) (Ar (gV 1) Cj))) V1 Yi (Bf 2 [2] [some (.ref G.length),some (.fl (tab h.n λi=>(h.last i:Int))),some (.int k),some (.int (k:Int))]) h.n 0 (csH G h.n h.enc (.tup (tab h.n lv)) yt s)=.ok (Aq (h.mem k)) (csH G h.n h.enc (.tup (tab h.n lv)) yt s):=ZLU rfl _;simp [Ka,By,Hs.Dr hk,G7,hB,hl,Kg ZPi,Ip,Ku,lenOf,hc,Ao,hml,Wg,ZNo g hk hl hs.1 (by lia)]
    ·have hl':¬((h.last k:Int)=(k:Int)):=by lia
     simp [Ka,By,Hs.Dr hk,G7,hB,hl,hl']
  rw [e0,Dk];simp only [Xl,Xc,ZBm,Do,R.Lg,R.Dj,List.set,hb,Dt,List.length_cons,List.length_nil,Nat.reduceAdd,if_true];exact ih
theorem ZPG (g:GoodH h) (hs:s.NN h.n) (hre:s.rea= []):ZBJ [.ref G.length] (csH G h.n h.enc (.tup (tab h.n lv)) yt s)=.ok .non (csH G h.n h.enc (.tup (tab h.n lv)) yt (h.goF yt lv h.n 0 s)):=by
 obtain ⟨x',y',hL⟩:=ZIb (G:=G) (yt:=yt) (lv:=lv) g h.n 0 s none none (by lia) hs (by rw [hre];simp);rw [List.drop_zero] at hL;unfold ZBJ Zf;rw [Be];have hz:∀S G',Ef (Gd 0 (.fl (tab h.n λi=>(h.last i:Int)))) (Cd 2 (Ar (gV 2) (Ar (gV 3) Cj))) Q6 h.n 0 S G'=Bg (Cd 2 (Ar (gV 2) (Ar (gV 3) Cj))) Q6 (Dy (tab h.n λi=>(h.last i:Int))) S G':=λS G'=>Zv ZB1 (by rw [K9];simp)
 simp [Ka,ZQx g,Wg,Ip,Ku,lenOf,hz,hL,Kz]
end
noncomputable def Ck (n:Nat) (co:Nat->Nat->Int):List D:=(List.range n).map λk=>D.tup (tab 5 (co k))
noncomputable def stD (n:Nat) (lv:Nat->Int) (co:Nat->Nat->Int):D:=.tup [.tup (tab n lv),.tup (Ck n co)]
@[simp] theorem ZUI {n:Nat} :bels m (Ck n co)=true:=Gm λk _=>by simp [Q5]
@[simp] theorem ZPT {n:Nat} :bels m (Cm n pg)=true:=Gm λk _=>ZO7
@[simp] theorem ZUe {n:Nat} :(Ck n co).length=n:=by simp [Ck]
noncomputable def K3 (co:Nat->Nat->Int):Nat->Nat->Int:=λk j=>if j < 4 then co k (j + 1) else 0
noncomputable def cs0 (co:Nat->Nat->Int) (fl:Nat->Int):Cs:=⟨λk=>fl k + co k 0,K3 co,λ_=> [],[]⟩
theorem tab5:tab 5 F= [.int (F 0),.int (F 1),.int (F 2),.int (F 3),.int (F 4)]:=rfl
theorem N7 {c f:Str} {fs:List (Str×D)} {d:D} (hl:fs.length < 1000):Og c f (.ref G.length) d S (G++ .ins c fs::L)=.nx S (G++ .ins c (Hc f d fs)::L):=by
 rw [ZPa (fs:=fs) (by rw [Di];rfl) hl,Eg]
 rfl
theorem ZQy {n:Nat} (G:DH):Dz (Hi [.tup (tab n fl),.tup (Ck n co)]) (Cd 2 (Ar (gV 0) (Ar (gV 1) Cj))) Ci Wc (Bf 2 [] S) n 0 G=.ok (tab n λk=>fl k + co k 0) G:=by
 have he:Pq (tab n fl) (Ck n co)=(List.range n).map λ(i:Nat)=>D.tup [.int (fl i),.tup (tab 5 (co i))]:=by refine List.ext_getElem (by simp [Pq]) λi h1 h2=>by simp [Pq,tab,Ck]
 rw [ZAk (F:=λd=>match d with | .tup [.int c,.tup (.int a::_)]=>some (.int (c + a)) | _=>none) (λj=>ZGX (W9 (xs:=tab n fl)) (W9 (xs:=Ck n co)) j) (λx hx=> ?_) (by rw [he];simp)]
 ·congr 1
  rw [he,List.filterMap_map];show (List.range n).filterMap (λi=>some (D.int (fl i + co i 0)))=_;rw [List.filterMap_eq_map']
  rfl
 ·rw [he] at hx;obtain ⟨i,_,rfl⟩:=List.mem_map.mp hx;refine ⟨[some (.int (fl i)),some (.tup (tab 5 (co i)))],by simp [Bf],.inr ⟨rfl,.int (fl i + co i 0),?_,by simp [tab5]⟩⟩;unfold Wc;simp [tab5]
theorem ZOg (G:DH):Ux [some (.tup (tab 5 (co k)))] G=.ok (.ref G.length) (G++ [.lst (tab 5 (K3 co k))]):=by
 have hcut:cutD (tab 5 (co k)) (some 1) none= [.int (co k 1),.int (co k 2),.int (co k 3),.int (co k 4)]:=rfl;have h1:ZAt [.tup [.int (co k 1),.int (co k 2),.int (co k 3),.int (co k 4)]] G=.ok (.ref G.length) (G++ [.lst [.int (co k 1),.int (co k 2),.int (co k 3),.int (co k 4)]]):=rfl;have h2:Ay (.fl [.int (co k 1),.int (co k 2),.int (co k 3),.int (co k 4)]) (.fl [.int 0]) G=.ok (.ref G.length) (G++ [.lst (tab 5 (K3 co k))]):=rfl
 have hf:∀ds:List D,bels G.length ds=true->freeze G (.ok (.ref G.length) (G++ [.lst ds]))=.ok (.fl ds) G:=λds hb=>Gn hb
 unfold Ux;simp [Ol,ZE5,hcut,Nr,h1,hf,Ao,h2,Es]
theorem ZI9 {n:Nat} {co:Nat->Nat->Int}:∀(m k:Nat) (G:DH),k + m=n->Eb (gV 0) Ci Ux [none] ((Ck n co).drop k) G=.ok ((List.range m).map λj=>D.ref (G.length + j)) (G++(List.range m).map λj=>DO.lst (tab 5 (K3 co (k + j))))
 | 0,k,G,e=>by rw [List.drop_of_length_le (by simp;lia)];simp [Eb]
 | m + 1,k,G,e=>by
  have e0:(Ck n co).drop k=.tup (tab 5 (co k))::(Ck n co).drop (k + 1):=by rw [List.drop_eq_getElem_cons (by simp;lia)];simp [Ck]
  have ih:=ZI9 (n:=n) (co:=co) m (k + 1) (G++ [.lst (tab 5 (K3 co k))]) (by lia);rw [e0,ZDa];simp only [Do,R.Lg,List.set,ZOk,if_true,ZOg,ih]
  congr 1
  ·rw [List.range_succ_eq_map,List.map_cons,List.map_map]
   congr 1
   refine List.map_congr_left λj _=> ?_
   simp only [Function.comp,List.length_append,List.length_singleton]
   congr 1
   lia
  ·rw [List.range_succ_eq_map,List.map_cons,List.map_map,List.append_assoc]
   congr 1
   show _::_=_::_
   congr 1
   refine List.map_congr_left λj _=> ?_
   simp only [Function.comp]
   congr 3
   lia
theorem ZMf (g:GoodH h) :
  Th [.ref G.length,h.enc,stD h.n lv co,.int at_,.tup (tab h.n fl)] (G++ [.ins "Course" []])=.ok .non (csH G h.n h.enc (.tup (tab h.n lv)) (at_ % h.yr) (cs0 co fl)):=by
 have hn:=g.len;have hyr:=g.yr;have hnl:h.n<=1000000:=by lia
 have p1:∀a:D,Hc "house" a (cfl [])=cfl [a]:=λ_=>rfl
 have p2:∀a b:D,Hc "levels" b (cfl [a])=cfl [a,b]:=λ_ _=>rfl
 have p3:∀a b c:D,Hc "year_turn" c (cfl [a,b])=cfl [a,b,c]:=λ_ _ _=>rfl
 have p4:∀a b c d:D,Hc "came" d (cfl [a,b,c])=cfl [a,b,c,d]:=λ_ _ _ _=>rfl
 have p5:∀a b c d e:D,Hc "coming" e (cfl [a,b,c,d])=cfl [a,b,c,d,e]:=λ_ _ _ _ _=>rfl
 have p6:∀a b c d e f:D,Hc "page" f (cfl [a,b,c,d,e])=cfl [a,b,c,d,e,f]:=λ_ _ _ _ _ _=>rfl
 have p7:∀a b c d e f q:D,Hc "reaches" q (cfl [a,b,c,d,e,f])=cfl [a,b,c,d,e,f,q]:=λ_ _ _ _ _ _ _=>rfl
 have hl:∀ds,(cfl ds).length < 1000:=λds=>by unfold cfl;rw [List.length_zip];have:(["house","levels","year_turn","came","coming","page","reaches"]:List Str).length=7:=rfl;lia
 have hz:∀G',Ig 2 [.tup (tab h.n fl),.tup (Ck h.n co)] G'=.ok (.fn h.n (Hi [.tup (tab h.n fl),.tup (Ck h.n co)])) G':=λG'=>by rw [ZGH W9 W9];simp
 have hcc:=λG'=>ZI9 (n:=h.n) (co:=co) h.n 0 G' (by lia)
 simp only [List.drop_zero,Nat.zero_add] at hcc;have hcs:∀S:DSt,Bf 1 [] S= [none]:=λ_=>rfl
 have epg:List.replicate h.n D.non=Cm h.n λ_=> []:=by unfold Cm;refine List.ext_getElem (by simp) λi h1 h2=>by simp [Je]
 let S:DSt:= [some (.ref G.length),some h.enc,some (stD h.n lv co),some (.int at_),some (.tup (tab h.n fl)),some (.tup (tab h.n lv)),some (.tup (Ck h.n co))];have hS:S= [some (.ref G.length),some h.enc,some (stD h.n lv co),some (.int at_),some (.tup (tab h.n fl)),some (.tup (tab h.n lv)),some (.tup (Ck h.n co))]:=rfl;let R5:DH:=(List.range h.n).map λk=>DO.lst (tab 5 (K3 co k))
 have hR5:R5.length=h.n:=by simp [R5]
 have q1:Gh "Course" (dV 0) (dV 1) "house" S (G++ .ins "Course" (cfl []):: [])=.nx S (G++ .ins "Course" (cfl [h.enc]):: []):=by rw [Mq,hS];simp only [ZEi,List.getElem?_cons_zero,List.getElem?_cons_succ,R.Dj,N7 (hl _),p1]
 have q2:Gh "Course" (dV 0) (dV 5) "levels" S (G++ .ins "Course" (cfl [h.enc]):: [])=.nx S (G++ .ins "Course" (cfl [h.enc,.tup (tab h.n lv)]):: []):=by rw [Mq,hS];simp only [ZEi,List.getElem?_cons_zero,List.getElem?_cons_succ,R.Dj,N7 (hl _),p2]
 have q3:Gh "Course" (dV 0) (dOp Bj (dV 3) (dOp Ai (dV 1) (dC (.int 0)))) "year_turn" S (G++ .ins "Course" (cfl [h.enc,.tup (tab h.n lv)]):: [])=.nx S (G++ .ins "Course" (cfl [h.enc,.tup (tab h.n lv),.int (at_ % h.yr)]):: []):=by rw [Mq,hS];simp [ZSe,hyr,N7 (hl _),p3]
 have q4:Gh "Course" (dV 0) (Er (Dh (Ig 2) (Ab (dV 4) (Ab (dV 6) Ae))) 2 [] (Cd 2 (Ar (gV 0) (Ar (gV 1) Cj))) Ci Wc) "came" S (G++ .ins "Course" (cfl [h.enc,.tup (tab h.n lv),.int (at_ % h.yr)]):: [])=
   .nx S (G++ .ins "Course" (cfl [h.enc,.tup (tab h.n lv),.int (at_ % h.yr),.ref (G.length + 1)]):: .lst (tab h.n λk=>fl k + co k 0):: []):=by
  rw [Mq,hS];simp [hz,ZQy,Ao,hnl,N7 (hl _),p4]
 have q5:Gh "Course" (dV 0) (Er (Ff (dV 6)) 1 [] (gV 0) Ci Ux) "coming" S (G++ .ins "Course" (cfl [h.enc,.tup (tab h.n lv),.int (at_ % h.yr),.ref (G.length + 1)]):: .lst (tab h.n λk=>fl k + co k 0):: [])=
   .nx S (G++ .ins "Course" (cfl [h.enc,.tup (tab h.n lv),.int (at_ % h.yr),.ref (G.length + 1),.ref (G.length + (2 + h.n))]):: .lst (tab h.n λk=>fl k + co k 0)::(R5++ [.lst (Dw G.length h.n)])):=by
  have hi:Hj (.tup (Ck h.n co)) (G++ .ins "Course" (cfl [h.enc,.tup (tab h.n lv),.int (at_ % h.yr),.ref (G.length + 1)]):: .lst (tab h.n λk=>fl k + co k 0):: [])=.ok (.pure (Ck h.n co)) (G++ .ins "Course" (cfl [h.enc,.tup (tab h.n lv),.int (at_ % h.yr),.ref (G.length + 1)]):: .lst (tab h.n λk=>fl k + co k 0):: []):=rfl;have er:∀L:DH,L.length=2->(List.range h.n).map (λj=>D.ref ((G++L).length + j))=Dw G.length h.n:=λL e=>by
   unfold Dw;refine List.map_congr_left λj _=> ?_
   rw [List.length_append,e,Nat.add_assoc]
  have hc2:=hcc (G++ .ins "Course" (cfl [h.enc,.tup (tab h.n lv),.int (at_ % h.yr),.ref (G.length + 1)]):: .lst (tab h.n λk=>fl k + co k 0):: []);rw [er _ rfl] at hc2;have hml:∀G',Ao (Dw G.length h.n) G'=.ok (.ref G'.length) (G'++ [.lst (Dw G.length h.n)]):=λG'=>by simp [Ao,Dw,hnl]
  rw [Mq,hS];simp only [ZPo,ZKJ,ZEi,List.getElem?_cons_zero,List.getElem?_cons_succ,R.Lg,hi,hcs,hc2,hml,R.Dj];have e2:(G++DO.ins "Course" (cfl [h.enc,.tup (tab h.n lv),.int (at_ % h.yr),.ref (G.length + 1)]):: .lst (tab h.n λk=>fl k + co k 0):: []++(List.range h.n).map λj=>DO.lst (tab 5 (K3 co j))).length=G.length + (2 + h.n):=by simp;lia
  rw [e2];simp only [List.append_assoc,List.cons_append,List.nil_append];rw [N7 (hl _),p5]
 have q6:Gh "Course" (dV 0) (Eu (dOp Kq (dFn Ao (Ab (dC .non) Ae)) (dFn Du (Ab (dV 5) Ae)))) "page" S (G++ .ins "Course" (cfl [h.enc,.tup (tab h.n lv),.int (at_ % h.yr),.ref (G.length + 1),.ref (G.length + (2 + h.n))]):: .lst (tab h.n λk=>fl k + co k 0)::(R5++ [.lst (Dw G.length h.n)]))=
   .nx S (G++ .ins "Course" (cfl [h.enc,.tup (tab h.n lv),.int (at_ % h.yr),.ref (G.length + 1),.ref (G.length + (2 + h.n)),.ref (G.length + (3 + h.n))]):: .lst (tab h.n λk=>fl k + co k 0)::(R5++ [.lst (Dw G.length h.n),.lst (Cm h.n λ_=> [])])):=by
  rw [Mq,hS];generalize hQ:G++DO.ins "Course" (cfl [h.enc,.tup (tab h.n lv),.int (at_ % h.yr),.ref (G.length + 1),.ref (G.length + (2 + h.n))]):: .lst (tab h.n λk=>fl k + co k 0)::(R5++ [.lst (Dw G.length h.n)])=Q;have eQ:Q.length=G.length + (3 + h.n):=by rw [<-hQ];simp [hR5];lia
  have hrep:Kq (.ref Q.length) (.int (h.n:Int)) (Q++ [.lst [.non]])=.ok (.ref (Q.length + 1)) (Q++ [.lst [.non],.lst (Cm h.n λ_=> [])]):=by rw [ZI0 (d:=.non) (by rw [Di];rfl) (by lia),epg];simp
  have ht:tidy Q (.ok (.ref (Q.length + 1)) (Q++ [.lst [.non],.lst (Cm h.n λ_=> [])]))=.ok (.ref Q.length) (Q++ [.lst (Cm h.n λ_=> [])]):=ZC3 _ (k:=1) rfl ZPT;have hst:Og "Course" "page" (.ref G.length) (.ref Q.length) S (Q++ [.lst (Cm h.n λ_=> [])])=.nx S (G++ .ins "Course" (cfl [h.enc,.tup (tab h.n lv),.int (at_ % h.yr),.ref (G.length + 1),.ref (G.length + (2 + h.n)),.ref (G.length + (3 + h.n))]):: .lst (tab h.n λk=>fl k + co k 0)::(R5++ [.lst (Dw G.length h.n),.lst (Cm h.n λ_=> [])])):=by rw [eQ,<-hQ];simp only [List.append_assoc,List.cons_append,List.nil_append];rw [N7 (hl _),p6]
  rw [hS] at hst;simp [Ao,hrep,ht,hst]
 have q7:Gh "Course" (dV 0) (Eu (dFn Ao Ae)) "reaches" S (G++ .ins "Course" (cfl [h.enc,.tup (tab h.n lv),.int (at_ % h.yr),.ref (G.length + 1),.ref (G.length + (2 + h.n)),.ref (G.length + (3 + h.n))]):: .lst (tab h.n λk=>fl k + co k 0)::(R5++ [.lst (Dw G.length h.n),.lst (Cm h.n λ_=> [])]))=
   .nx S (G++ .ins "Course" (cfl [h.enc,.tup (tab h.n lv),.int (at_ % h.yr),.ref (G.length + 1),.ref (G.length + (2 + h.n)),.ref (G.length + (3 + h.n)),.ref (G.length + (4 + h.n))]):: .lst (tab h.n λk=>fl k + co k 0)::(R5++ [.lst (Dw G.length h.n),.lst (Cm h.n λ_=> []),.lst []])):=by
  rw [Mq,hS];generalize hQ:G++DO.ins "Course" (cfl [h.enc,.tup (tab h.n lv),.int (at_ % h.yr),.ref (G.length + 1),.ref (G.length + (2 + h.n)),.ref (G.length + (3 + h.n))]):: .lst (tab h.n λk=>fl k + co k 0)::(R5++ [.lst (Dw G.length h.n),.lst (Cm h.n λ_=> [])])=Q;have eQ:Q.length=G.length + (4 + h.n):=by rw [<-hQ];simp [hR5];lia
  have ht:tidy Q (.ok (.ref Q.length) (Q++ [.lst []]))=.ok (.ref Q.length) (Q++ [.lst []]):=Es rfl;have hst:Og "Course" "reaches" (.ref G.length) (.ref Q.length) S (Q++ [.lst []])=.nx S (G++ .ins "Course" (cfl [h.enc,.tup (tab h.n lv),.int (at_ % h.yr),.ref (G.length + 1),.ref (G.length + (2 + h.n)),.ref (G.length + (3 + h.n)),.ref (G.length + (4 + h.n))]):: .lst (tab h.n λk=>fl k + co k 0)::(R5++ [.lst (Dw G.length h.n),.lst (Cm h.n λ_=> []),.lst []])):=by rw [eQ,<-hQ];simp only [List.append_assoc,List.cons_append,List.nil_append];rw [N7 (hl _),p7]
  rw [hS] at hst;simp [Ao,ht,hst]
 have htd:tidy (G++ [.ins "Course" []]) (.ok .non (csH G h.n h.enc (.tup (tab h.n lv)) (at_ % h.yr) (cs0 co fl)))=.ok .non (csH G h.n h.enc (.tup (tab h.n lv)) (at_ % h.yr) (cs0 co fl)):=ZOI λz=>by
  have h1:=congrArg (λl:DH=>l[G.length]?) z;simp only [List.length_append,List.length_singleton] at h1;rw [List.getElem?_take_of_lt (by lia),Ko] at h1;have h2:(G++ [DO.ins "Course" []])[G.length]? =some (.ins "Course" []):=by rw [Di];rfl
  rw [h2] at h1;simp [cflds,cfl] at h1
 have hfin:G++DO.ins "Course" (cfl [h.enc,.tup (tab h.n lv),.int (at_ % h.yr),.ref (G.length + 1),.ref (G.length + (2 + h.n)),.ref (G.length + (3 + h.n)),.ref (G.length + (4 + h.n))]):: .lst (tab h.n λk=>fl k + co k 0)::(R5++ [.lst (Dw G.length h.n),.lst (Cm h.n λ_=> []),.lst []])=csH G h.n h.enc (.tup (tab h.n lv)) (at_ % h.yr) (cs0 co fl):=rfl;have q0:sAs (dV 2) (Cd 2 (Ar (gV 5) (Ar (gV 6) Cj))) [some (.ref G.length),some h.enc,some (stD h.n lv co),some (.int at_),some (.tup (tab h.n fl)),none,none] (G++ [.ins "Course" []])=.nx S (G++ .ins "Course" (cfl []):: []):=by
  simp [stD,hS]
  rfl
 unfold Th Yq;rw [Be];have h5: [D.ref G.length,h.enc,stD h.n lv co,.int at_,.tup (tab h.n fl)].length=5:=rfl;rw [if_pos h5];have hd:([D.ref G.length,h.enc,stD h.n lv co,.int at_,.tup (tab h.n fl)].map some++List.replicate 2 none)= [some (.ref G.length),some h.enc,some (stD h.n lv co),some (.int at_),some (.tup (tab h.n fl)),none,none]:=rfl;rw [hd];simp only [Zh,q0,ZBf,q1,q2,q3,q4,q5,q6,q7,hfin,ZP4]
 exact htd
section
variable {h:Hs} {yt:Int} {lv:Nat->Int}
theorem Xa (g:GoodH h):∀(m k:Nat),h.n<=m + k->h.last k=k∨(h.pl (h.last k)).kd.isB=false
 | 0,k,e=>.inl (Ik g (My (by lia)))
 | m + 1,k,e=>by
  cases hd:h.dir k with
  | none=>exact .inl (Ik g hd)
  | some d=>
   have hl:=Gx g hd;rw [Kv g hd];rcases Xa g m d (by lia) with z | z
   ·refine .inr ?_;rw [z];unfold Hs.dir at hd;cases h1:h.dn k with
    | none=>rw [h1] at hd;cases hd
    | some d'=>
     rw [h1] at hd;simp only at hd;split at hd
     ·cases hd
     ·rename_i hn;cases hd;cases e2:(h.pl d).kd.isB with
      | false=>rfl
      | true=>exact absurd (.inr (.inr e2)) hn
   ·exact .inr z
theorem ZFY (g:GoodH h):∀(m k:Nat),h.n<=m + k->h.last (h.last k)=h.last k
 | 0,k,e=>by have h1:=Ik g (h:=h) (k:=k) (My (by lia));rw [h1,h1]
 | m + 1,k,e=>by
  cases hd:h.dir k with
  | none=>rw [Ik g hd,Ik g hd]
  | some d=>
   have hl:=Gx g hd;rw [Kv g hd];exact ZFY g m d (by lia)
noncomputable def Hs.done (h:Hs) (j k:Nat):Prop:=if (h.pl k).kd.isB=true then k < j else h.last k < j
theorem ZRY (g:GoodH h) (hk:k < h.n) (hf:∀i,i < h.n->h.done k i->(s.page i).length=6):∀i,i < h.n->h.done (k + 1) i->((h.step yt lv s k).page i).length=6:=λi hi hd=>by
 unfold Hs.step;split
 ·rename_i hB;by_cases e:i=k
  ·subst e;exact (ZEk hB).1
  ·rw [(ZEk hB).2 i e];refine hf i hi ?_;unfold Hs.done at hd ⊢;by_cases hiB:(h.pl i).kd.isB=true
   ·rw [if_pos hiB] at hd ⊢;lia
   ·rw [if_neg hiB] at hd ⊢;rcases Nat.lt_or_ge (h.last i) k with z | z
    ·exact z
    ·have e2:h.last i=k:=by lia
     rcases Xa g h.n i (by lia) with z2 | z2
     ·rw [z2] at e2;exact absurd e2 e
     ·rw [e2,hB] at z2;cases z2
 ·rename_i hB;split
  ·rename_i hl;rw [ZFK];split
   ·rfl
   ·rename_i hm;refine hf i hi ?_;unfold Hs.done at hd ⊢;by_cases hiB:(h.pl i).kd.isB=true
    ·rw [if_pos hiB] at hd ⊢;rcases Nat.lt_or_ge i k with z | z
     ·exact z
     ·have e2:i=k:=by lia
      rw [e2] at hiB;exact absurd hiB hB
    ·rw [if_neg hiB] at hd ⊢;rcases Nat.lt_or_ge (h.last i) k with z | z
     ·exact z
     ·exact absurd (mem_iff.mpr ⟨hi,by lia⟩) hm
  ·rename_i hl;refine hf i hi ?_;unfold Hs.done at hd ⊢;by_cases hiB:(h.pl i).kd.isB=true
   ·rw [if_pos hiB] at hd ⊢;rcases Nat.lt_or_ge i k with z | z
    ·exact z
    ·have e2:i=k:=by lia
     rw [e2] at hiB;exact absurd hiB hB
   ·rw [if_neg hiB] at hd ⊢;rcases Nat.lt_or_ge (h.last i) k with z | z
    ·exact z
    ·have e2:h.last i=k:=by lia
     have:=ZFY g h.n i (by lia);rw [e2] at this;exact absurd this hl
theorem ZGZ (g:GoodH h):∀(m k:Nat) (s:Cs),k + m=h.n->(∀i,i < h.n->h.done k i->(s.page i).length=6)->∀i,i < h.n->((h.goF yt lv m k s).page i).length=6
 | 0,k,s,e,hf,i,hi=>hf i hi (by
   unfold Hs.done;split
   ·lia
   ·have:=(Hy g i).2 hi;lia)
 | m + 1,k,s,e,hf,i,hi=>ZGZ g m (k + 1) _ (by lia) (ZRY g (by lia) hf) i hi
theorem ZHd (g:GoodH h):∀(m k:Nat) (s:Cs),k + m=h.n->s.NN h.n->(h.goF yt lv m k s).NN h.n
 | 0,k,s,e,hs=>hs
 | m + 1,k,s,e,hs=>ZHd g m (k + 1) _ (by lia) (ZI1 g (by lia) hs)
end
noncomputable def lies (pg:Nat->List Int):Nat->Int:=λk=>(pg k).getD 5 0
theorem row6 {l:List Int} (h:l.length=6):∃a b c d e f,l= [a,b,c,d,e,f]:=by
 match l,h with
 | [a,b,c,d,e,f],_=>exact ⟨a,b,c,d,e,f,rfl⟩
section
variable {G:DH} {h:Hs} {LV:D} {yt:Int} {s:Cs}
theorem ZOL (hf:∀k,k < h.n->(s.page k).length=6):H8 (G.length + (3 + h.n)) (gV 0) Ci We (Bf 1 [] S) h.n 0 (csH G h.n h.enc LV yt s)=.ok (tab h.n (lies s.page)) (csH G h.n h.enc LV yt s):=by
 have hx:=ZJA (i:=G.length + (3 + h.n)) (g:=gV 0) (c:=Ci) (te:=We) (S:=Bf 1 [] S) (G:=csH G h.n h.enc LV yt s) (F:=λd=>match d with | .tup [_,_,_,_,_,x]=>some x | _=>none) M6 (λx hx=>by obtain ⟨k,hk,rfl⟩:=List.mem_map.mp hx;obtain ⟨a,b,c,d,e,f,el⟩:=row6 (hf k (List.mem_range.mp hk));rw [el];refine ⟨[some (Je [a,b,c,d,e,f])],by simp [Bf],.inr ⟨rfl,.int f,?_,rfl⟩⟩;unfold We;simp [Je])
 rw [ZDn] at hx;rw [hx]
 congr 1
 unfold Cm;rw [List.filterMap_map];unfold tab;rw [<-List.filterMap_eq_map'];refine ZAZ λk hk=> ?_
 obtain ⟨a,b,c,d,e,f,el⟩:=row6 (hf k (List.mem_range.mp hk));simp [Function.comp,el,Je,lies]
theorem ZMe:H8 (G.length + (2 + h.n)) (gV 0) Ci Yb (Bf 1 [] S) h.n 0 (csH G h.n h.enc LV yt s)=.ok (Ck h.n s.coming) (csH G h.n h.enc LV yt s):=by
 have hlen:(Dw G.length h.n).length=h.n:=by simp [Dw]
 have hx:=ZJA (i:=G.length + (2 + h.n)) (g:=gV 0) (c:=Ci) (te:=Yb) (S:=Bf 1 [] S) (G:=csH G h.n h.enc LV yt s) (F:=λd=>match d with | .ref j=>some (.tup (tab 5 (s.coming (j - (G.length + 2))))) | _=>none) Vh (λx hx=>by
  obtain ⟨k,hk,rfl⟩:=List.mem_map.mp hx;refine ⟨[some (.ref (G.length + (2 + k)))],by simp [Bf],.inr ⟨rfl,.tup (tab 5 (s.coming k)),?_,?_⟩⟩
  ·unfold Yb;simp [ZEq (List.mem_range.mp hk)]
  ·have e:G.length + (2 + k) - (G.length + 2)=k:=by lia
   simp only [e])
 rw [hlen] at hx;rw [hx]
 congr 1
 unfold Dw;rw [List.filterMap_map];unfold Ck;rw [<-List.filterMap_eq_map'];refine ZAZ λk hk=> ?_
 have e:G.length + (2 + k) - (G.length + 2)=k:=by lia
 simp only [Function.comp,e]
theorem ZMY (g:GoodH h) (hf:∀k,k < h.n->(s.page k).length=6):ZAp [.ref G.length] (csH G h.n h.enc LV yt s)=.ok (stD h.n (lies s.page) s.coming) (csH G h.n h.enc LV yt s):=by
 have hn:=g.len;have hnl:h.n<=1000000:=by lia
 have hl2:(Dw G.length h.n).length=h.n:=by simp [Dw]
 have hb:bel (csH G h.n h.enc LV yt s).length (stD h.n (lies s.page) s.coming)=true:=by simp [stD]
 unfold ZAp Z7;rw [Be];unfold stD at hb ⊢;have i1:Hj (.ref (G.length + (3 + h.n))) (csH G h.n h.enc LV yt s)=.ok (.mt (G.length + (3 + h.n))) (csH G h.n h.enc LV yt s):=by simp [Hj,M6]
 have i2:Hj (.ref (G.length + (2 + h.n))) (csH G h.n h.enc LV yt s)=.ok (.mt (G.length + (2 + h.n))) (csH G h.n h.enc LV yt s):=by simp [Hj,Vh]
 simp [i1,i2,Ou,M6,ZOL hf,Ao,hnl,Wg,Bo,ZJt,Vh,hl2,ZMe,Bd]
noncomputable def Hs.cs (h:Hs) (lv:Nat->Int) (co:Nat->Nat->Int) (at_:Int) (fl:Nat->Int):Cs:=h.goF (at_ % h.yr) lv h.n 0 (cs0 co fl)
theorem ZIl {n:Nat} (hc:∀k j,k < n->j < 5->0<=co k j) (hf:∀k,k < n->0<=fl k):(cs0 co fl).NN n:=by
 refine ⟨λk hk=> ?_,λk j hk hj=> ?_⟩
 ·have:=hc k 0 hk (by lia);have:=hf k hk;show 0<=fl k + co k 0;lia
 ·show 0<=if j < 4 then co k (j + 1) else 0
  split
  ·exact hc k (j + 1) hk (by lia)
  ·exact Int.le_refl _
theorem ZPM (g:GoodH h) :∀k,k < h.n->((h.cs lv co at_ fl).page k).length=6:=ZGZ g h.n 0 _ (by lia) λi hi hd=>by
 unfold Hs.done at hd
 split at hd <;> lia
theorem ZRl (g:GoodH h) (hc:∀k j,k < h.n->j < 5->0<=co k j) (hf:∀k,k < h.n->0<=fl k) (G:DH):
  Zg [h.enc,stD h.n lv co,.int at_,.tup (tab h.n fl)] G=.ok (.tup [.tup (Cm h.n (h.cs lv co at_ fl).page),stD h.n (lies (h.cs lv co at_ fl).page) (h.cs lv co at_ fl).coming]) G:=by
 have hgo:=ZPG (G:=G) (lv:=lv) (yt:=at_ % h.yr) g (ZIl (fl:=fl) hc hf) rfl;have hst:=ZMY (G:=G) (LV:=.tup (tab h.n lv)) (yt:=at_ % h.yr) g (ZPM g (lv:=lv) (fl:=fl) (co:=co) (at_:=at_));have hmk:ZCl Th "Course" [h.enc,stD h.n lv co,.int at_,.tup (tab h.n fl)] G=.ok (.ref G.length) (csH G h.n h.enc (.tup (tab h.n lv)) (at_ % h.yr) (cs0 co fl)):=by
  unfold ZCl;rw [ZMf g]
  rfl
 have egs:h.goF (at_ % h.yr) lv h.n 0 (cs0 co fl)=h.cs lv co at_ fl:=rfl;rw [egs] at hgo;have hcH:∀s,csH G h.n h.enc (.tup (tab h.n lv)) (at_ % h.yr) s=G++csT G.length h.n h.enc (.tup (tab h.n lv)) (at_ % h.yr) s:=λ_=>rfl
 have hbl:bel G.length (.tup [.tup (Cm h.n (h.cs lv co at_ fl).page),stD h.n (lies (h.cs lv co at_ fl).page) (h.cs lv co at_ fl).coming])=true:=by simp [stD]
 unfold Zg Vu;rw [Be];simp [hmk,Kg ZNA,hgo,Ou,M6,Kg ZQp,hst,Bo];rw [hcH];exact O4 hbl
end
theorem ZNB (hf:∀k:Nat,k<=1000->∀G,Bc [.fl (ns.map D.int),.int k] G=.ok (.int (f k)) G):∃u:Int,(u=1∨u=1000000000000000000000000000000)/\∀G,Gf [.fl (ns.map D.int)] G=.ok (.int u) G:=by
 have h0:∀G,Bc [.fl (ns.map D.int),.int 0] G=.ok (.int (f 0)) G:=hf 0 (by lia);have fz:∀G:DH,freeze G (.ok (.ref G.length) (G++ [.lst [.int 1,.int 1,.int 1000000000000000000000000000000]]))=.ok (.fl [.int 1,.int 1,.int 1000000000000000000000000000000]) G:=λG=>Gn rfl
 rcases (by lia:f 0 / 840 % 3=0∨f 0 / 840 % 3=1∨f 0 / 840 % 3=2) with h | h | h
 ·refine ⟨1,.inl rfl,λG=> ?_⟩;unfold Gf Jp;rw [Be];simp [h0,h,Ao,fz,Bd]
 ·refine ⟨1,.inl rfl,λG=> ?_⟩;unfold Gf Jp;rw [Be];simp [h0,h,Ao,fz,Bd]
 ·refine ⟨1000000000000000000000000000000,.inr rfl,λG=> ?_⟩;unfold Gf Jp;rw [Be];simp [h0,h,Ao,fz,Bd]
noncomputable def amt (c u:Int):Int:=u * (c % 7) + c / 7 % u
theorem ZAw (hu:0 < u):0<=amt c u:=by unfold amt;have h1:0<=u * (c % 7):=Int.mul_nonneg (by lia) (by lia);have h2:0<=c / 7 % u:=Int.emod_nonneg _ (by lia);lia
theorem Kh (hu:0 < u) (G:DH):Mt [.int c,.int u] G=.ok (.int (amt c u)) G:=by
 have m1:∀G,Bh (.int u) (.int (c % 7)) G=.ok (.int (u * (c % 7))) G:=λG=>Kw (by lia) (by lia)
 unfold Mt Ng;rw [Be];simp [m1,hu,Bd,amt]
theorem ZN0 (hf:∀k:Nat,k<=1000->∀G,Bc [.fl (ns.map D.int),.int k] G=.ok (.int (f k)) G):∃y:Int,(1<=y/\y<=24)/\∀G,Jz [.fl (ns.map D.int)] G=.ok (.int y) G:=by
 have h1:∀G,Bc [.fl (ns.map D.int),.int 1] G=.ok (.int (f 1)) G:=hf 1 (by lia);by_cases h:f 1 / 4 % 4=1
 ·refine ⟨1 + f 1 / 16 % 24,by lia,λG=> ?_⟩;unfold Jz Oi;rw [Be];simp [h1,h,Bd]
 ·refine ⟨1 + f 1 % 4,by lia,λG=> ?_⟩;unfold Jz Oi;rw [Be];simp [h1,h,Bd]
noncomputable def O6 (xs:Nat->Int) (u:Int) (p:Bool):Nat->Nat->Int->List Stp
 | 0,_,_=> []
 | n + 1,j,low=>⟨low + u * (xs (1 + j) % 4),1 + u * (xs (1 + j) / 4 % 4), !(p && decide (xs (1 + j) / 16 % 2=1))⟩::O6 xs u p n (j + 1) (low + u * (xs (1 + j) % 4) + (1 + u * (xs (1 + j) / 4 % 4)))
theorem ZGn {xs:Nat->Int} (hu:0 < u) {p:Bool}:∀(n j:Nat) (low:Int),Good low (O6 xs u p n j low)
 | 0,_,_=>trivial
 | n + 1,j,low=>by have h1:0<=u * (xs (1 + j) % 4):=Int.mul_nonneg (by lia) (by lia);have h2:0<=u * (xs (1 + j) / 4 % 4):=Int.mul_nonneg (by lia) (by lia);exact ⟨by show low<=low + _;lia,by show 1<=1 + _;lia,ZGn hu n (j + 1) _⟩
theorem ZJV {xs:Nat->Int} :∀(n j:Nat) (low:Int),∀s∈O6 xs u false n j low,s.r=true
 | 0,_,_,s,h=>by cases h
 | n + 1,j,low,s,h=>by
  rcases List.mem_cons.mp h with rfl | h
  ·simp
  ·exact ZJV n (j + 1) _ s h
theorem ZJJ {xs:Nat->Int} {u:Int} {p:Bool} {G:DH}:∀(n j:Nat) (low:Int) (acc:List Stp) (x y z:Option D),j + n<=3->acc.length + n<=10->∃x' y' z' l',
  Bg (gV 5) Sy (Cg j n) [some (.fl (tab 4 xs)),some (.int u),some (.bl p),some (.ref G.length),some (.int low),x,y,z] (G++ [.lst (acc.map Stp.enc)])=
   .nx [some (.fl (tab 4 xs)),some (.int u),some (.bl p),some (.ref G.length),l',x',y',z'] (G++ [.lst ((acc++O6 xs u p n j low).map Stp.enc)])
 | 0,j,low,acc,x,y,z,h,ha=>⟨x,y,z,some (.int low),by rw [Ob,Ec];simp [O6]⟩
 | n + 1,j,low,acc,x,y,z,h,ha=>by
  have hj:1 + j < 4:=by lia
  have a1:atI (tab 4 xs) (1 + (j:Int))=some (.int (xs (1 + j))):=Ex (k:=1 + j) (by lia) (Lk hj);let s:Stp:=⟨low + u * (xs (1 + j) % 4),1 + u * (xs (1 + j) / 4 % 4), !(p && decide (xs (1 + j) / 16 % 2=1))⟩;obtain ⟨x',y',z',l',ih⟩:=ZJJ (xs:=xs) (u:=u) (p:=p) (G:=G) n (j + 1) (s.h + s.m) (acc++ [s]) (some (.int j)) (some (.int s.m)) (some (.str (wy s.r))) (by lia) (by simp;lia);refine ⟨x',y',z',l',?_⟩
  have m1:∀G,Bh (.int u) (.int (xs (1 + j) % 4)) G=.ok (.int (u * (xs (1 + j) % 4))) G:=λG=>Kw (by lia) (by lia)
  have m2:∀G,Bh (.int u) (.int (xs (1 + j) / 4 % 4)) G=.ok (.int (u * (xs (1 + j) / 4 % 4))) G:=λG=>Kw (by lia) (by lia)
  have hal:acc.length < 1000000:=by lia
  have hb:Sy [some (.fl (tab 4 xs)),some (.int u),some (.bl p),some (.ref G.length),some (.int low),some (.int j),y,z] (G++ [.lst (acc.map Stp.enc)])=
    .nx [some (.fl (tab 4 xs)),some (.int u),some (.bl p),some (.ref G.length),some (.int (s.h + s.m)),some (.int j),some (.int s.m),some (.str (wy s.r))] (G++ [.lst ((acc++ [s]).map Stp.enc)]):=by
   unfold Sy;cases p with
   | false=>simp [a1,m1,m2,Di,Eg,hal,Bo,s,Stp.enc,wy]
   | true=>
    by_cases h16:xs (1 + j) / 16 % 2=1
    ·simp [a1,m1,m2,h16,Di,Eg,hal,Bo,s,Stp.enc,wy]
    ·simp [a1,m1,m2,h16,Di,Eg,hal,Bo,s,Stp.enc,wy]
  rw [Kp,Dk];simp only [Do,R.Dj,List.set,hb,Dt];have e1:((j:Int) + 1)=((j + 1:Nat):Int):=by lia
  rw [e1,ih];simp [O6,s]
noncomputable def stps (xs:Nat->Int) (u:Int) (p:Bool):List Stp:=O6 xs u p (xs 0 % 4).toNat 0 0
theorem ZGi {xs:Nat->Int} {p:Bool} (G:DH):ZBO [.fl (tab 4 xs),.int u,.bl p] G=.ok (.tup ((stps xs u p).map Stp.enc)) G:=by
 have hn:(xs 0 % 4).toNat<=3:=by lia
 obtain ⟨x',y',z',l',hL⟩:=ZJJ (xs:=xs) (u:=u) (p:=p) (G:=G) (xs 0 % 4).toNat 0 0 [] none none none (by lia) (by simp;lia);have hL':Bg (gV 5) Sy (Cg 0 (xs 0 % 4).toNat) [some (.fl (tab 4 xs)),some (.int u),some (.bl p),some (.ref G.length),some (.int 0),none,none,none] (G++ [.lst []])=.nx [some (.fl (tab 4 xs)),some (.int u),some (.bl p),some (.ref G.length),l',x',y',z'] (G++ [.lst ((stps xs u p).map Stp.enc)]):=hL
 have a0:atI (tab 4 xs) 0=some (.int (xs 0)):=Ex (k:=0) rfl (Lk (by lia));have hr:inR (xs 0 % 4):=Gr (by lia) (by lia);unfold ZBO ZBX;rw [Be];simp [Ao,Es,a0,hr,hL',Di,O4]
noncomputable def Hu (st:List Stp):Int:=match st with
 | []=>0
 | s::r=>(if s.r then 0 else s.m) + Hu r
theorem ZIn {c:D} {G:DH}:∀(st:List Stp) (v:Int) (x y z:Option D),∃x' y' z',Bg (Cd 3 (Ar (gV 2) (Ar (gV 3) (Ar (gV 4) Cj)))) ZAx (st.map Stp.enc) [some c,some (.int v),x,y,z] G=.nx [some c,some (.int (v + Hu st)),x',y',z'] G
 | [],v,x,y,z=>⟨x,y,z,by simp [Hu,Ec]⟩
 | s::st,v,x,y,z=>by
  let v1:Int:=v + if s.r then 0 else s.m
  obtain ⟨x',y',z',ih⟩:=ZIn (c:=c) (G:=G) st v1 (some (.int s.h)) (some (.int s.m)) (some (.str (wy s.r)));refine ⟨x',y',z',?_⟩;have hb:ZAx [some c,some (.int v),some (.int s.h),some (.int s.m),some (.str (wy s.r))] G=.nx [some c,some (.int v1),some (.int s.h),some (.int s.m),some (.str (wy s.r))] G:=by
   unfold ZAx
   cases e:s.r <;> simp [v1,e]
  rw [List.map_cons,Dk];simp [Stp.enc,hb];rw [ih];simp [Hu,v1,Int.add_assoc]
theorem ZNN (G:DH):Wk [.tup (st.map Stp.enc)] G=.ok (.int (Hu st)) G:=by obtain ⟨x',y',z',hL⟩:=ZIn (c:=.tup (st.map Stp.enc)) (G:=G) st 0 none none none;unfold Wk ZBR;rw [Be];simp at hL;simp [hL,Bd]
noncomputable def Fg (lat:Nat->Int) (cel:Nat->Nat->Int) (u:Int) (p:Bool) (yr:Int):Nat->Nat->Int->List Ssn
 | 0,_,_=> []
 | m + 1,j,bg=>if j=0∨(lat j % 2=1/\bg + 1 < yr) then (if 0 < j then bg + 1 + lat j / 2 % (yr - bg - 1) else bg,stps (cel j) u p)::Fg lat cel u p yr m (j + 1) (if 0 < j then bg + 1 + lat j / 2 % (yr - bg - 1) else bg)
  else Fg lat cel u p yr m (j + 1) bg
theorem ZFZ {lat:Nat->Int} {cel:Nat->Nat->Int} (hu:0 < u) {p:Bool} :∀(m j:Nat) (bg:Int),∀s∈Fg lat cel u p yr m j bg,Good 0 s.2/\(p=false->∀t∈s.2,t.r=true)
 | 0,_,_,s,h=>by cases h
 | m + 1,j,bg,s,h=>by
  unfold Fg at h;split at h
  ·rcases List.mem_cons.mp h with rfl | h
   ·refine ⟨ZGn hu _ _ _,λhp=> ?_⟩;subst hp;exact ZJV _ _ _
   ·exact ZFZ hu m (j + 1) _ s h
  ·exact ZFZ hu m (j + 1) _ s h
theorem Vr {lat:Nat->Int} {cel:Nat->Nat->Int} {u:Int} {p:Bool} {yr:Int}:∀(m j:Nat) (bg:Int),0 < j->bg < yr->(∀s∈Fg lat cel u p yr m j bg,bg < s.1/\s.1 < yr)/\(Fg lat cel u p yr m j bg).Pairwise (λa b:Ssn=>a.1 < b.1)
 | 0,_,_,_,_=>⟨λs h=>(nomatch h),List.Pairwise.nil⟩
 | m + 1,j,bg,hj,hb=>by
  unfold Fg;split
  ·rename_i hc;have hc2:bg + 1 < yr:=by
    rcases hc with z | z
    ·lia
    ·exact z.2
   have h1:0<=lat j / 2 % (yr - bg - 1):=Int.emod_nonneg _ (by lia);have h2:lat j / 2 % (yr - bg - 1) < yr - bg - 1:=Int.emod_lt_of_pos _ (by lia);obtain ⟨i1,i2⟩:=Vr (lat:=lat) (cel:=cel) (u:=u) (p:=p) (yr:=yr) m (j + 1) (bg + 1 + lat j / 2 % (yr - bg - 1)) (by lia) (by lia);refine ⟨λs hs=> ?_,List.pairwise_cons.mpr ⟨λs hs=>(i1 s hs).1,i2⟩⟩;rcases List.mem_cons.mp hs with rfl | hs
   ·exact ⟨by show bg < bg + 1 + _;lia,by show bg + 1 + _ < yr;lia⟩
   ·have:=i1 s hs;lia
  ·exact Vr m (j + 1) bg (by lia) hb
theorem Zj {te:DE} {n:Nat} {F:Nat->D} (h:∀k:Nat,k < n->te (S.set 0 (some (.int k))) G=.ok (F k) G):Eb (gV 0) Ci te S (Cg 0 n) G=.ok ((List.range n).map F) G:=by
 have e:Cg 0 n=(List.range n).map λ(i:Nat)=>D.int (i:Int):=by
  refine List.ext_getElem? λi=> ?_
  simp [Cg]
 rw [Yu (F:=λd=>match d with | .int i=>some (F i.toNat) | _=>none) (λq hq=> ?_)]
 ·congr 1
  rw [e,List.filterMap_map];show (List.range n).filterMap (λ(i:Nat)=>some (F ((i:Int).toNat)))=_;rw [List.filterMap_eq_map'];simp
 ·rw [e] at hq;obtain ⟨i,hi,rfl⟩:=List.mem_map.mp hq;exact ⟨S.set 0 (some (.int i)),by simp,.inr ⟨rfl,F i,h i (List.mem_range.mp hi),by simp⟩⟩
noncomputable def Q7:Nat->Int
 | 0=>1
 | 1=>48
 | 2=>2304
 | _=>110592
noncomputable def Ua:Nat->Int
 | 0=>1
 | 1=>64
 | 2=>4096
 | _=>262144
theorem ZIm (hf:∀k:Nat,k<=1000->∀G,Bc [.fl (ns.map D.int),.int k] G=.ok (.int (f k)) G) (hb:b<=900) (hj:j < 4) (G:DH):
  Eb (gV 0) Ci ZDz [none,some (.fl (ns.map D.int)),some (.int b),some (.int j)] (Cg 0 4) G=.ok (tab 4 λk=>f (b + 5 + (3 * j + k) % 6) / (1 + 7 * ((j:Int) / 2))) G:=
 Zj (n:=4) (F:=λk=>.int (f (b + 5 + (3 * j + k) % 6) / (1 + 7 * ((j:Int) / 2)))) λk hk=>by
  have h1:=hf (b + 5 + (3 * j + k) % 6) (by lia) G;have e1:((b + 5 + (3 * j + k) % 6:Nat):Int)=(b:Int) + 5 + (3 * (j:Int) + k) % 6:=by lia
  rw [e1] at h1;unfold ZDz
  rcases (by lia:j=0∨j=1∨j=2∨j=3) with rfl | rfl | rfl | rfl <;> simp at h1 ⊢ <;> simp [h1]
theorem ZLz (hf:∀k:Nat,k<=1000->∀G,Bc [.fl (ns.map D.int),.int k] G=.ok (.int (f k)) G) (hb:b<=900) (hj:j < 4) (G:DH):
  Eb (gV 0) Ci ZFc [none,some (.fl (ns.map D.int)),some (.int b),some (.int j)] (Cg 0 4) G=.ok (tab 4 λk=>f (b + 5 + k) / Ua j) G:=
 Zj (n:=4) (F:=λk=>.int (f (b + 5 + k) / Ua j)) λk hk=>by
  have h1:=hf (b + 5 + k) (by lia) G;have e1:((b + 5 + k:Nat):Int)=(b:Int) + 5 + k:=by lia
  rw [e1] at h1;have fz:freeze G (.ok (.ref G.length) (G++ [.lst [.int 1,.int 64,.int 4096,.int 262144]]))=.ok (.fl [.int 1,.int 64,.int 4096,.int 262144]) G:=Gn rfl;unfold ZFc
  rcases (by lia:j=0∨j=1∨j=2∨j=3) with rfl | rfl | rfl | rfl <;> simp [h1,Ao,fz,Ua]
theorem ZOv (hf:∀k:Nat,k<=1000->∀G,Bc [.fl (ns.map D.int),.int k] G=.ok (.int (f k)) G) (hb:b<=900) {p:Bool} (hj:j < 4):∃(lat:Int) (xs:Nat->Int),∀(G:DH) (bg:Int) (acc:List Ssn) (x y:Option D),acc.length<=10->bg < yr->∃bg' acc',
   Le [some (.fl (ns.map D.int)),some (.int b),some (.int u),some (.bl p),some (.int yr),some (.ref G.length),some (.int bg),some (.int j),x,y] (G++ [.lst (acc.map Cy)])=
    .nx [some (.fl (ns.map D.int)),some (.int b),some (.int u),some (.bl p),some (.int yr),some (.ref G.length),some (.int bg'),some (.int j),some (.int lat),some (.fl (tab 4 xs))] (G++ [.lst (acc'.map Cy)])/\
   ((j=0∨(lat % 2=1/\bg + 1 < yr))->bg'=(if 0 < j then bg + 1 + lat / 2 % (yr - bg - 1) else bg)/\acc'=acc++ [(bg',stps xs u p)])/\
   (¬(j=0∨(lat % 2=1/\bg + 1 < yr))->bg'=bg/\acc'=acc):=by
 obtain ⟨tp,ht⟩:=ZIy (ns:=ns);have h4:=hf (b + 4) (by lia);have e4:((b + 4:Nat):Int)=(b:Int) + 4:=by lia
 rw [e4] at h4;let lat:Int:=if tp then f (b + 4) / Q7 j else f (b + 4) * 48271 * ((j:Int) * j + 1) % 10007
 let xs:Nat->Int:=if tp then λk=>f (b + 5 + k) / Ua j else λk=>f (b + 5 + (3 * j + k) % 6) / (1 + 7 * ((j:Int) / 2))
 refine ⟨lat,xs,λG bg acc x y ha hbg=> ?_⟩;have hr:inR 4:=Gr (by lia) (by lia);have hal:acc.length < 1000000:=by lia
 have fz:∀ds:List D,(∀m,bels m ds=true)->freeze (G++ [.lst (acc.map Cy)]) (.ok (.ref (G.length + 1)) (G++ [.lst (acc.map Cy),.lst ds]))=.ok (.fl ds) (G++ [.lst (acc.map Cy)]):=λds h=>ZHS (h _)
 have cs1:∀a b c d e f' g h i j':Option D,Bf 1 [0,1,7] [a,b,c,d,e,f',g,h,i,j']= [none,a,b,h]:=λ_ _ _ _ _ _ _ _ _ _=>rfl
 have mj:∀G,Bh (.int (j:Int)) (.int (j:Int)) G=.ok (.int ((j:Int) * j)) G:=λG=>Jq (by lia) (by lia)
 have mj2:∀G,Bh (.int (f (b + 4) * 48271)) (.int ((j:Int) * j + 1)) G=.ok (.int (f (b + 4) * 48271 * ((j:Int) * j + 1))) G:=λG=>Kw (by
   have:=Int.mul_nonneg (show (0:Int)<=j by lia) (show (0:Int)<=j by lia);lia) (by
   rcases (by lia:j=0∨j=1∨j=2∨j=3) with rfl | rfl | rfl | rfl <;> decide)
 have head:Le [some (.fl (ns.map D.int)),some (.int b),some (.int u),some (.bl p),some (.int yr),some (.ref G.length),some (.int bg),some (.int j),x,y] (G++ [.lst (acc.map Cy)])=
   W5 [some (.fl (ns.map D.int)),some (.int b),some (.int u),some (.bl p),some (.int yr),some (.ref G.length),some (.int bg),some (.int j),some (.int lat),some (.fl (tab 4 xs))] (G++ [.lst (acc.map Cy)]):=by
  unfold Le ZH7 ZG1;cases htp:tp with
  | false=>
   have e1:lat=f (b + 4) * 48271 * ((j:Int) * j + 1) % 10007:=by simp [lat,htp]
   have e2:xs=λk=>f (b + 5 + (3 * j + k) % 6) / (1 + 7 * ((j:Int) / 2)):=by simp [xs,htp]
   rw [e1,e2];rw [htp] at ht;simp [h4,mj,mj2,hr,cs1,ZIm hf hb hj,Ao,fz,ht]
  | true=>
   have e1:lat=f (b + 4) / Q7 j:=by simp [lat,htp]
   have e2:xs=λk=>f (b + 5 + k) / Ua j:=by simp [xs,htp]
   rw [e1,e2];rw [htp] at ht;have dv:atI [D.int 1,D.int 48,D.int 2304,D.int 110592] (j:Int)=some (.int (Q7 j)):=by rcases (by lia:j=0∨j=1∨j=2∨j=3) with rfl | rfl | rfl | rfl <;> rfl
   have dd:∀G',De (.int (f (b + 4))) (.int (Q7 j)) G'=.ok (.int (f (b + 4) / Q7 j)) G':=λG'=>by rcases (by lia:j=0∨j=1∨j=2∨j=3) with rfl | rfl | rfl | rfl <;> simp [Q7]
   have fz4:freeze (G++ [.lst (acc.map Cy)]) (.ok (.ref (G.length + 1)) (G++ [.lst (acc.map Cy),.lst [D.int 1,D.int 48,D.int 2304,D.int 110592]]))=.ok (.fl [D.int 1,D.int 48,D.int 2304,D.int 110592]) (G++ [.lst (acc.map Cy)]):=ZHS rfl;simp [h4,mj,mj2,hr,cs1,ZIm hf hb hj,Ao,fz,ht,fz4,dv,dd,ZLz hf hb hj]
 rw [head]
 clear_value lat xs
 by_cases hc:j=0∨(lat % 2=1/\bg + 1 < yr)
 ·refine ⟨_,_,?_,λ_=>⟨rfl,rfl⟩,λz=>absurd hc z⟩;unfold W5;by_cases h0:j=0
  ·subst h0;simp [ZGi,Bo,Di,Eg,hal,Cy]
  ·have hc2:lat % 2=1/\bg + 1 < yr:=by
    rcases hc with z | z
    ·exact absurd z h0
    ·exact z
   have hj0:0 < j:=by lia
   have hp:0 < yr - bg - 1:=by lia
   have hp3:1 < yr - bg:=by lia
   simp [h0,hc2.1,hc2.2,hj0,hp3,ZGi,Bo,Di,Eg,hal,Cy]
 ·refine ⟨bg,acc,?_,λz=>absurd z hc,λ_=>⟨rfl,rfl⟩⟩;have h0:¬j=0:=λz=>hc (.inl z)
  unfold W5;by_cases h1:lat % 2=1
  ·have h2:¬bg + 1 < yr:=λz=>hc (.inr ⟨h1,z⟩)
   simp [h0,h1,h2]
  ·simp [h0,h1]
theorem ZC1 {p:Bool} {lat:Nat->Int} {cel:Nat->Nat->Int}
  (hd:∀j:Nat,j < 4->∀(G:DH) (bg:Int) (acc:List Ssn) (x y:Option D),acc.length<=10->bg < yr->∃bg' acc',
   Le [some (.fl (ns.map D.int)),some (.int b),some (.int u),some (.bl p),some (.int yr),some (.ref G.length),some (.int bg),some (.int j),x,y] (G++ [.lst (acc.map Cy)])=
    .nx [some (.fl (ns.map D.int)),some (.int b),some (.int u),some (.bl p),some (.int yr),some (.ref G.length),some (.int bg'),some (.int j),some (.int (lat j)),some (.fl (tab 4 (cel j)))] (G++ [.lst (acc'.map Cy)])/\
   ((j=0∨(lat j % 2=1/\bg + 1 < yr))->bg'=(if 0 < j then bg + 1 + lat j / 2 % (yr - bg - 1) else bg)/\acc'=acc++ [(bg',stps (cel j) u p)])/\
   (¬(j=0∨(lat j % 2=1/\bg + 1 < yr))->bg'=bg/\acc'=acc)) {G:DH}:∀(m j:Nat) (bg:Int) (acc:List Ssn) (x y z:Option D),j + m=4->acc.length<=j->bg < yr->∃x' y' z' w',
   Bg (gV 7) Le (Cg j m) [some (.fl (ns.map D.int)),some (.int b),some (.int u),some (.bl p),some (.int yr),some (.ref G.length),some (.int bg),x,y,z] (G++ [.lst (acc.map Cy)])=
    .nx [some (.fl (ns.map D.int)),some (.int b),some (.int u),some (.bl p),some (.int yr),some (.ref G.length),x',y',z',w'] (G++ [.lst ((acc++Fg lat cel u p yr m j bg).map Cy)])
 | 0,j,bg,acc,x,y,z,e,ha,hb=>⟨some (.int bg),x,y,z,by rw [Ob,Ec];simp [Fg]⟩
 | m + 1,j,bg,acc,x,y,z,e,ha,hb=>by
  obtain ⟨bg',acc',h1,h2,h3⟩:=hd j (by lia) G bg acc y z (by lia) hb;have e1:((j:Int) + 1)=((j + 1:Nat):Int):=by lia
  by_cases hc:j=0∨(lat j % 2=1/\bg + 1 < yr)
  ·obtain ⟨r1,r2⟩:=h2 hc;have hbg:bg' < yr:=by
    rw [r1];split
    ·have h4:bg + 1 < yr:=by
      rcases hc with z | z
      ·lia
      ·exact z.2
     have h5:lat j / 2 % (yr - bg - 1) < yr - bg - 1:=Int.emod_lt_of_pos _ (by lia);lia
    ·exact hb
   obtain ⟨x',y',z',w',ih⟩:=ZC1 hd (G:=G) m (j + 1) bg' acc' (some (.int j)) (some (.int (lat j))) (some (.fl (tab 4 (cel j)))) (by lia) (by rw [r2];simp;lia) hbg;refine ⟨x',y',z',w',?_⟩;rw [Kp,Dk];simp only [Do,R.Dj,List.set,h1,Dt];have er:Fg lat cel u p yr (m + 1) j bg=(bg',stps (cel j) u p)::Fg lat cel u p yr m (j + 1) bg':=by rw [r1];exact if_pos hc
   rw [e1,ih,r2,er];simp
  ·obtain ⟨r1,r2⟩:=h3 hc;obtain ⟨x',y',z',w',ih⟩:=ZC1 hd (G:=G) m (j + 1) bg' acc' (some (.int j)) (some (.int (lat j))) (some (.fl (tab 4 (cel j)))) (by lia) (by rw [r2];lia) (by rw [r1];exact hb);refine ⟨x',y',z',w',?_⟩;rw [Kp,Dk];simp only [Do,R.Dj,List.set,h1,Dt];rw [e1,ih,r2,r1]
   conv=>rhs;unfold Fg
   rw [if_neg hc]
structure RuleOk (yr:Int) (p:Bool) (r:List Ssn):Prop where
 good:∀s∈r,Good 0 s.2/\(p=false->∀t∈s.2,t.r=true)
 cons:∃st rest,r=(0,st)::rest
 asc:r.Pairwise (λa b:Ssn=>a.1 < b.1)
 yr:∀s∈r,0<=s.1/\s.1 < yr
 len:r.length<=4
theorem ZDv {lat:Nat->Int} {cel:Nat->Nat->Int} {u:Int} {p:Bool} {yr:Int}:∀(m j:Nat) (bg:Int),(Fg lat cel u p yr m j bg).length<=m
 | 0,_,_=>Nat.le_refl _
 | m + 1,j,bg=>by
  unfold Fg;split
  ·have:=ZDv (lat:=lat) (cel:=cel) (u:=u) (p:=p) (yr:=yr) m (j + 1) (if 0 < j then bg + 1 + lat j / 2 % (yr - bg - 1) else bg);simp only [List.length_cons];lia
  ·have:=ZDv (lat:=lat) (cel:=cel) (u:=u) (p:=p) (yr:=yr) m (j + 1) bg;lia
theorem ZHZ (hf:∀k:Nat,k<=1000->∀G,Bc [.fl (ns.map D.int),.int k] G=.ok (.int (f k)) G) (hyr:1<=yr/\yr<=24) (cy:∀G,Jz [.fl (ns.map D.int)] G=.ok (.int yr) G) (hb:b<=900) (hu:0 < u) {p:Bool}:
  ∃r:List Ssn,RuleOk yr p r/\∀G,ZBj [.fl (ns.map D.int),.int b,.int u,.bl p] G=.ok (.tup (r.map Cy)) G:=by
 have ex:∀j:Nat,∃q:Int×(Nat->Int),j < 4->∀(G:DH) (bg:Int) (acc:List Ssn) (x y:Option D),acc.length<=10->bg < yr->∃bg' acc',
   Le [some (.fl (ns.map D.int)),some (.int b),some (.int u),some (.bl p),some (.int yr),some (.ref G.length),some (.int bg),some (.int j),x,y] (G++ [.lst (acc.map Cy)])=
    .nx [some (.fl (ns.map D.int)),some (.int b),some (.int u),some (.bl p),some (.int yr),some (.ref G.length),some (.int bg'),some (.int j),some (.int q.1),some (.fl (tab 4 q.2))] (G++ [.lst (acc'.map Cy)])/\
   ((j=0∨(q.1 % 2=1/\bg + 1 < yr))->bg'=(if 0 < j then bg + 1 + q.1 / 2 % (yr - bg - 1) else bg)/\acc'=acc++ [(bg',stps q.2 u p)])/\
   (¬(j=0∨(q.1 % 2=1/\bg + 1 < yr))->bg'=bg/\acc'=acc):=λj=>by
  by_cases hj:j < 4
  ·obtain ⟨lat,xs,h⟩:=ZOv (u:=u) (yr:=yr) (p:=p) hf hb hj;exact ⟨(lat,xs),λ_=>h⟩
  ·exact ⟨(0,λ_=>0),λz=>absurd z hj⟩
 let lat:Nat->Int:=λj=>(ex j).choose.1
 let cel:Nat->Nat->Int:=λj=>(ex j).choose.2
 have hd:=λ(j:Nat) (hj:j < 4)=>(ex j).choose_spec hj
 refine ⟨Fg lat cel u p yr 4 0 0,⟨ZFZ hu 4 0 0,?_,?_,?_,ZDv 4 0 0⟩,λG=> ?_⟩
 ·unfold Fg;rw [if_pos (.inl rfl)];exact ⟨_,_,rfl⟩
 ·unfold Fg;rw [if_pos (.inl rfl)];obtain ⟨i1,i2⟩:=Vr (lat:=lat) (cel:=cel) (u:=u) (p:=p) (yr:=yr) 3 1 0 (by lia) (by lia);exact List.pairwise_cons.mpr ⟨λs hs=>(i1 s hs).1,i2⟩
 ·unfold Fg;rw [if_pos (.inl rfl)];obtain ⟨i1,i2⟩:=Vr (lat:=lat) (cel:=cel) (u:=u) (p:=p) (yr:=yr) 3 1 0 (by lia) (by lia);intro s hs;rcases List.mem_cons.mp hs with rfl | hs
  ·exact ⟨Int.le_refl _,by show (0:Int) < yr;lia⟩
  ·have:=i1 s hs;lia
 ·obtain ⟨x',y',z',w',hL⟩:=ZC1 (lat:=lat) (cel:=cel) hd (G:=G) 4 0 0 [] none none none (by lia) (by simp) (by lia);have hL':Bg (gV 7) Le (Cg 0 4) [some (.fl (ns.map D.int)),some (.int b),some (.int u),some (.bl p),some (.int yr),some (.ref G.length),some (.int 0),none,none,none] (G++ [.lst []])=.nx [some (.fl (ns.map D.int)),some (.int b),some (.int u),some (.bl p),some (.int yr),some (.ref G.length),x',y',z',w'] (G++ [.lst ((Fg lat cel u p yr 4 0 0).map Cy)]):=hL
  have hr:inR 4:=Gr (by lia) (by lia);generalize Fg lat cel u p yr 4 0 0=rl at hL';unfold ZBj ZAn;rw [Be];simp [cy,Ao,Es,hr,hL',Di,O4]
noncomputable def ZDg:List Nat:=("abcdefghijklmnopqrstuvwxyz":Str).cps.toList
noncomputable def ZDV:List Nat:=("abcdefghijkl":Str).cps.toList
theorem ZQ6:∀i,i < 26->ZDg[i]? =some (97 + i):=by decide +kernel
theorem ZPx:∀i,i < 12->ZDV[i]? =some (97 + i):=by decide +kernel
noncomputable def Ea (l:List Nat):Str:=⟨l.toArray⟩
theorem ZHJ {l':List Nat} (h:Ea l=Ea l'):l=l':=by have h1:=congrArg (λs:Str=>s.cps.toList) h;simpa [Ea] using h1
theorem ZPg {l':List Nat}:Ea l++Ea l'=Ea (l++l'):=by show Str.append _ _=_;unfold Str.append Ea;simp
theorem ZIk {s:Str} (h:s.cps.toList=l):s=Ea l:=by obtain ⟨a⟩:=s;unfold Ea;simp only at h;rw [<-h]
theorem ZMM {o:Nat} {n:Int}:N6 ⟨#[o]⟩ n=Ea (List.replicate n.toNat o):=by
 refine ZIk ?_;rw [ZR3];show (List.replicate n.toNat [o]).flatten=_;generalize n.toNat=m
 induction m with
 | zero=>rfl
 | succ m ih=>rw [List.replicate_succ,List.flatten_cons,ih,List.replicate_succ];rfl
noncomputable def ocF (c:Int):Nat:=97 + (c / 21 % 26).toNat
noncomputable def tcF (c:Int) (k:Nat):Nat:=97 + ((5 * (k:Int) + c / 546) % 12).toNat
noncomputable def Fw (c:Int) (n k:Nat):List Nat:=if c % 3=1/\n < 9 then List.replicate (k + 1) (ocF c) else if c % 3=2 then tcF c k::List.replicate (c / 3 % 7).toNat (ocF c) else List.replicate (c / 3 % 7).toNat (ocF c)++tcF c k::List.replicate (6 - (c / 3 % 7)).toNat (ocF c)
theorem ZQX {n:Nat} (hn:n<=12) (hk:k < n) (G:DH):Z8 [.int c,.int k,.int n] G=.ok (.str (Ea (Fw c n k))) G:=by
 have a1:atI ZDg (c / 21 % 26)=some (ocF c):=Ex (k:=(c / 21 % 26).toNat) (by lia) (ZQ6 _ (by lia));have a2:atI ZDV ((5 * (k:Int) + c / 546) % 12)=some (tcF c k):=Ex (k:=((5 * (k:Int) + c / 546) % 12).toNat) (by lia) (ZPx _ (by lia));have l1:("abcdefghijklmnopqrstuvwxyz":Str).length<=1000000:=by decide +kernel
 have l2:("abcdefghijkl":Str).length<=1000000:=by decide +kernel
 have ho:∀m:Int,-1000<=m->m<=1000->∀G,Bh (.str ⟨#[ocF c]⟩) (.int m) G=.ok (.str (Ea (List.replicate m.toNat (ocF c)))) G:=λm h1 h2 G=>by rw [ZK0 ⟨h1,h2,by show (#[ocF c]).size<=1000;simp⟩,ZMM]
 have e1:∀G,Ai (.str ("abcdefghijklmnopqrstuvwxyz":Str)) (.int (c / 21 % 26)) G=R.ok (.str ⟨#[ocF c]⟩) G:=λG=>by
  rw [Qf,if_pos l1]
  show (match atI ZDg (c / 21 % 26) with | some c=>R.ok (sgn c) G | none=>.bad)=_
  rw [a1]
  rfl
 have e2:∀G,Ai (.str ("abcdefghijkl":Str)) (.int ((5 * (k:Int) + c / 546) % 12)) G=R.ok (.str (Ea [tcF c k])) G:=λG=>by
  rw [Qf,if_pos l2]
  show (match atI ZDV ((5 * (k:Int) + c / 546) % 12) with | some c=>R.ok (sgn c) G | none=>.bad)=_
  rw [a2]
  rfl
 have hadd:∀(l l':List Nat) (G:DH),l.length + l'.length<=1000000->Ay (.str (Ea l)) (.str (Ea l')) G=.ok (.str (Ea (l++l'))) G:=λl l' G h=>by
  have e:Ay (.str (Ea l)) (.str (Ea l')) G=if (Ea l).length + (Ea l').length<=1000000 then .ok (.str (Ea l++Ea l')) G else .bad:=rfl
  rw [e,if_pos (by show l.toArray.size + l'.toArray.size<=1000000;simpa using h),ZPg]
 unfold Z8 ZBy;rw [Be];by_cases h1:c % 3=1
 ·by_cases h9:n < 9
  ·have en:Fw c n k=List.replicate (k + 1) (ocF c):=if_pos ⟨h1,h9⟩;have hk2:=ho ((k:Int) + 1) (by lia) (by lia);have ek:((k:Int) + 1).toNat=k + 1:=by lia
   rw [ek] at hk2;rw [en];have h9':(n:Int) < 9:=by lia
   simp [-Qf,e1,h1,h9',hk2,Bd]
  ·have en:Fw c n k=List.replicate (c / 3 % 7).toNat (ocF c)++tcF c k::List.replicate (6 - (c / 3 % 7)).toNat (ocF c):=by unfold Fw;rw [if_neg (λz=>h9 z.2),if_neg (by lia)]
   have r1:=ho (c / 3 % 7) (by lia) (by lia);have r2:=ho (6 - (c / 3 % 7)) (by lia) (by lia);have d1:=λG=>hadd (List.replicate (c / 3 % 7).toNat (ocF c)) [tcF c k] G (by simp;lia)
   have d2:=λG=>hadd (List.replicate (c / 3 % 7).toNat (ocF c)++ [tcF c k]) (List.replicate (6 - (c / 3 % 7)).toNat (ocF c)) G (by simp;lia)
   have ea:List.replicate (c / 3 % 7).toNat (ocF c)++ [tcF c k]++List.replicate (6 - (c / 3 % 7)).toNat (ocF c)=Fw c n k:=by rw [en];simp
   rw [ea] at d2;have h9':¬(n:Int) < 9:=by lia
   simp [-Qf,e1,e2,h1,h9',r1,r2,d1,d2,Bd]
 ·by_cases h2:c % 3=2
  ·have en:Fw c n k=tcF c k::List.replicate (c / 3 % 7).toNat (ocF c):=by unfold Fw;rw [if_neg (λz=>h1 z.1),if_pos h2]
   have r1:=ho (c / 3 % 7) (by lia) (by lia);have d1:=λG=>hadd [tcF c k] (List.replicate (c / 3 % 7).toNat (ocF c)) G (by simp;lia)
   have ea: [tcF c k]++List.replicate (c / 3 % 7).toNat (ocF c)=Fw c n k:=by rw [en];rfl
   rw [ea] at d1;simp [-Qf,e1,e2,h2,r1,d1,Bd]
  ·have en:Fw c n k=List.replicate (c / 3 % 7).toNat (ocF c)++tcF c k::List.replicate (6 - (c / 3 % 7)).toNat (ocF c):=by unfold Fw;rw [if_neg (λz=>h1 z.1),if_neg h2]
   have r1:=ho (c / 3 % 7) (by lia) (by lia);have r2:=ho (6 - (c / 3 % 7)) (by lia) (by lia);have d1:=λG=>hadd (List.replicate (c / 3 % 7).toNat (ocF c)) [tcF c k] G (by simp;lia)
   have d2:=λG=>hadd (List.replicate (c / 3 % 7).toNat (ocF c)++ [tcF c k]) (List.replicate (6 - (c / 3 % 7)).toNat (ocF c)) G (by simp;lia)
   have ea:List.replicate (c / 3 % 7).toNat (ocF c)++ [tcF c k]++List.replicate (6 - (c / 3 % 7)).toNat (ocF c)=Fw c n k:=by rw [en];simp
   rw [ea] at d2;simp [-Qf,e1,e2,h1,h2,r1,r2,d1,d2,Bd]
theorem ZGG {k':Nat} (hk:k < 12) (hk':k' < 12) (h:tcF c k=tcF c k'):k=k':=by unfold tcF at h;omega +splitNatSub
theorem ZQ9 {n k':Nat} (hn:n<=12) (hk:k < n) (hk':k' < n) (h:Fw c n k=Fw c n k'):k=k':=by
 unfold Fw at h;split at h
 ·have:=congrArg List.length h;simp at this;exact this
 ·split at h
  ·exact ZGG (by lia) (by lia) (List.cons.inj h).1
  ·have:=List.append_cancel_left h;exact ZGG (by lia) (by lia) (List.cons.inj this).1
theorem ZLY:("sea":Str)=Ea [115,101,97]:=by decide +kernel
theorem ZPN {n:Nat}:Ea (Fw c n k)≠"sea":=λh=>by
 rw [ZLY] at h;have h:=ZHJ h;unfold Fw at h;split at h
 ·have h1:∀x∈ [115,101,97],x=ocF c:=λx hx=>by rw [<-h] at hx;exact List.eq_of_mem_replicate hx
  have a:=h1 115 (by simp);have b:=h1 101 (by simp);lia
 ·split at h
  ·have:=(List.cons.inj h).1;unfold tcF at this;lia
  ·have:=congrArg List.length h;simp at this;lia
theorem Ti {te:DE} {S:DSt} {E:α->D} {F:α->D} {G:DH}:∀{l:List α},(∀a∈l,te (S.set 0 (some (E a))) G=.ok (F a) G)->Eb (gV 0) Ci te S (l.map E) G=.ok (l.map F) G
 | [],_=>rfl
 | a::l,h=>by
  have h1:=h a (by simp);have ih:=Ti (te:=te) (S:=S) (E:=E) (F:=F) (G:=G) (l:=l) λb hb=>h b (List.mem_cons_of_mem _ hb)
  rw [List.map_cons,ZDa];simp [h1,ih]
noncomputable def Cq (nm:Nat->Str) (n:Nat):List D:=(List.range n).map λk=>.str (nm k)
theorem Zi {n:Nat} (h:k < n):atI (Cq nm n) (k:Int)=some (.str (nm k)):=Ex rfl (by simp [Cq,h])
theorem Pg {n:Nat}:(Cq nm n).length=n:=by simp [Cq]
@[simp] theorem ZLh {n:Nat}:bels m (Cq nm n)=true:=Gm λ_ _=>rfl
noncomputable def Jm (nm:Nat->Str):Option (Nat×Nat×Int)->D
 | none=>.non
 | some (to,dl,m)=>.tup [.str (nm to),.int dl,.int m]
@[simp] theorem ZUD:bel m (Jm nm q)=true:=by
 cases q with
 | none=>rfl
 | some q=>obtain ⟨a,b,c⟩:=q;simp [Jm]
theorem ZPF (hf:∀k:Nat,k<=1000->∀G,Bc [.fl (ns.map D.int),.int k] G=.ok (.int (f k)) G) (hyr:1<=yr/\yr<=24) (cy:∀G,Jz [.fl (ns.map D.int)] G=.ok (.int yr) G) (hu:0 < u) (cu:∀G,Gf [.fl (ns.map D.int)] G=.ok (.int u) G) {n:Nat} (hb:b<=900) (hk:k < n) (hn:n<=12) {d:Str} {dl:Int}:
  ∃(r:List Ssn) (q:Option (Nat×Nat×Int)),RuleOk yr q.isSome r/\(∀to dl m,q=some (to,dl,m)->to < n/\1<=dl/\dl<=5)/\
   ∀G,U0 [.fl (ns.map D.int),.int b,.int k,.fl (Cq nm n),.tup [.str d,.int dl]] G=.ok (.tup [.str "basin",.str (nm k),.str d,.int dl,.int (amt (f (b + 3)) u),.tup (r.map Cy),Jm nm q]) G:=by
 have h11:∀G,Bc [.fl (ns.map D.int),.int ((b:Int) + 11)] G=.ok (.int (f (b + 11))) G:=λG=>by have:=hf (b + 11) (by lia) G;rwa [show ((b + 11:Nat):Int)=(b:Int) + 11 by lia] at this
 have h3:∀G,Bc [.fl (ns.map D.int),.int ((b:Int) + 3)] G=.ok (.int (f (b + 3))) G:=λG=>by have:=hf (b + 3) (by lia) G;rwa [show ((b + 3:Nat):Int)=(b:Int) + 3 by lia] at this
 have ak:atI (Cq nm n) (k:Int)=some (.str (nm k)):=Zi hk;have fu:∀G,freeze G (.ok (.int u) G)=.ok (.int u) G:=λG=>Nr rfl
 generalize f (b + 11)=c at h11;by_cases hp:1 < n/\c % 2=1
 ·obtain ⟨r,hr,cr⟩:=ZHZ (ns:=ns) (f:=f) hf hyr cy hb hu (p:=true);obtain ⟨st,rest,er⟩:=hr.cons;have hx0:0<=c / 2 % ((n:Int) - 1):=Int.emod_nonneg _ (by lia);have ht0:0<=((k:Int) + 1 + c / 2 % ((n:Int) - 1)) % n:=Int.emod_nonneg _ (by lia);have ht1:((k:Int) + 1 + c / 2 % ((n:Int) - 1)) % n < n:=Int.emod_lt_of_pos _ (by lia);generalize ht:((k:Int) + 1 + c / 2 % ((n:Int) - 1)) % n=t at ht0 ht1;have at_:atI (Cq nm n) t=some (.str (nm t.toNat)):=by have:=Zi (nm:=nm) (n:=n) (k:=t.toNat) (by lia);rwa [show ((t.toNat:Nat):Int)=t by lia] at this
  have mx:∀G,Pn [.fl (r.map λs=>.int (Hu s.2))] G=.ok (.int ((rest.map λs=>Hu s.2).foldl max (Hu st))) G:=λG=>ZQ8 (by rw [er];simp [Bs])
  have m2:∀G,Bh (.int u) (.int (c / 130 % 2)) G=.ok (.int (u * (c / 130 % 2))) G:=λG=>Kw (by lia) (by lia)
  have cp:∀(G:DH),Eb (gV 0) Ci ZEx [none] (r.map Cy) G=.ok (r.map λs=>.int (Hu s.2)) G:=λG=>Ti λs _=>by unfold ZEx;simp [Cy,ZNN]
  have fz:∀G:DH,freeze G (.ok (.ref G.length) (G++ [.lst (r.map λs=>.int (Hu s.2))]))=.ok (.fl (r.map λs=>.int (Hu s.2))) G:=λG=>Gn (Gm λ_ _=>rfl)
  have hd:((1 + c / 26 % 5).toNat:Int)=1 + c / 26 % 5:=by lia
  refine ⟨r,some (t.toNat,(1 + c / 26 % 5).toNat,(rest.map λs=>Hu s.2).foldl max (Hu st) + u * (c / 130 % 2)),hr,?_,λG=> ?_⟩
  ·intro to dl m e;cases e;lia
  ·have h1:(1:Int) < n:=by lia
   have h1':0 < (n:Int) - 1:=by lia
   have hn0:0 < (n:Int):=by lia
   have hn0':0 < n:=by lia
   have hrl:r.length<=1000000:=by have:=hr.len;lia
   unfold U0 Uh;rw [Be];simp [hrl,cu,fu,h11,Pg,hp.1,hp.2,h1,h1',hn0,hn0',cr,cp,Bf,fz,mx,m2,ht,at_,Bo,h3,Kh hu,ak,Bd,Jm,hd]
 ·obtain ⟨r,hr,cr⟩:=ZHZ (ns:=ns) (f:=f) hf hyr cy hb hu (p:=false)
  refine ⟨r,none,hr,(λto dl m e=>nomatch e),λG=> ?_⟩
  unfold U0 Uh;rw [Be];by_cases h1:1 < n
  ·have h2:¬c % 2=1:=λz=>hp ⟨h1,z⟩
   have h1':(1:Int) < n:=by lia
   simp [cu,fu,h11,Pg,h1,h1',h2,cr,Bo,h3,Kh hu,ak,Bd,Jm]
  ·have h1':¬(1:Int) < n:=by lia
   simp [cu,fu,h11,Pg,h1,h1',cr,Bo,h3,Kh hu,ak,Bd,Jm]
noncomputable def dnS (nm:Nat->Str):Option Nat->Str
 | none=>"sea"
 | some d=>nm d
noncomputable def Hw (nm:Nat->Str) (p:Pl):D:=match p.kd with
 | .basin b r q=>.tup [.str "basin",.str p.nm,.str (dnS nm p.dn),.int p.dl,.int b,.tup (r.map Cy),Jm nm q]
 | .town a b=>.tup [.str "town",.str p.nm,.str (dnS nm p.dn),.int p.dl,.int a,.int b]
 | .mill a=>.tup [.str "mill",.str p.nm,.str (dnS nm p.dn),.int p.dl,.int a]
structure PlOk (yr:Int) (nm:Nat->Str) (n k:Nat) (p:Pl):Prop where
 nm:p.nm=nm k
 dn:∀d,p.dn=some d->k < d/\d < n
 dl:p.dl<=5
 basin:∀b r q,p.kd=.basin b r q->0<=b/\RuleOk yr q.isSome r/\∀to dl m,q=some (to,dl,m)->to < n/\1<=dl/\dl<=5
 town:∀a b,p.kd=.town a b->0<=a/\0<=b
 mill:∀a,p.kd=.mill a->0<=a
theorem ZJ8 (hf:∀k:Nat,k<=1000->∀G,Bc [.fl (ns.map D.int),.int k] G=.ok (.int (f k)) G) (hyr:1<=yr/\yr<=24) (cy:∀G,Jz [.fl (ns.map D.int)] G=.ok (.int yr) G) (hu:0 < u) (cu:∀G,Gf [.fl (ns.map D.int)] G=.ok (.int u) G) (cdn:∀G,I8 [.fl (ns.map D.int)] G=.ok (.bl dns) G) {n:Nat} (hk:k < n) (hn:n<=12) :
  ∃p:Pl,PlOk yr nm n k p/\∀(G:DH) (acc:List D) (x6 x7 x8 x9 x10 x11 x12:Option D),acc.length<=20->∃y6 y7 y8 y9 y10 y11 y12,
   Ly [some (.fl (ns.map D.int)),some (.int c),some (.int n),some (.fl (Cq nm n)),some (.int k),some (.ref G.length),x6,x7,x8,x9,x10,x11,x12] (G++ [.lst acc])=
    .nx [some (.fl (ns.map D.int)),some (.int c),some (.int n),some (.fl (Cq nm n)),some (.int k),some (.ref G.length),y6,y7,y8,y9,y10,y11,y12] (G++ [.lst (acc++ [Hw nm p])]):=by
 have hc:∀j:Nat,j<=11->∀G,Bc [.fl (ns.map D.int),.int (((6 + 12 * k:Nat):Int) + j)] G=.ok (.int (f (6 + 12 * k + j))) G:=λj hj G=>by have:=hf (6 + 12 * k + j) (by lia) G;rwa [show ((6 + 12 * k + j:Nat):Int)=((6 + 12 * k:Nat):Int) + j by lia] at this
 have hb:6 + 12 * k<=900:=by lia
 have e6:(6 + 12 * (k:Int))=((6 + 12 * k:Nat):Int):=by lia
 have m12:∀G,Bh (.int 12) (.int (k:Int)) G=.ok (.int (12 * (k:Int))) G:=λG=>Jq (by lia) (by lia)
 have h0:∀G,Bc [.fl (ns.map D.int),.int ((6 + 12 * k:Nat):Int)] G=.ok (.int (f (6 + 12 * k))) G:=hf _ (by lia);have h1:∀G,Bc [.fl (ns.map D.int),.int (((6 + 12 * k:Nat):Int) + 1)] G=.ok (.int (f (6 + 12 * k + 1))) G:=hc 1 (by lia);have h2:∀G,Bc [.fl (ns.map D.int),.int (((6 + 12 * k:Nat):Int) + 2)] G=.ok (.int (f (6 + 12 * k + 2))) G:=hc 2 (by lia);have h3:∀G,Bc [.fl (ns.map D.int),.int (((6 + 12 * k:Nat):Int) + 3)] G=.ok (.int (f (6 + 12 * k + 3))) G:=hc 3 (by lia)
 have h4:∀G,Bc [.fl (ns.map D.int),.int (((6 + 12 * k:Nat):Int) + 4)] G=.ok (.int (f (6 + 12 * k + 4))) G:=hc 4 (by lia);have ak:atI (Cq nm n) (k:Int)=some (.str (nm k)):=Zi hk;have fu:∀G,freeze G (.ok (.int u) G)=.ok (.int u) G:=λG=>Nr rfl
 have cb:=λd dl=>ZPF (nm:=nm) (d:=d) (dl:=dl) hf hyr cy hu cu hb hk hn
 generalize 6 + 12 * k=b at hc hb e6 h0 h1 h2 h3 h4 cb;obtain ⟨s,hs0,hs1,hs⟩:∃s:Int,0<=s/\s < (n:Int) - k/\∀(H:DH) (x5 x7 x8 x9 x10 x11 x12:Option D),X3 [some (.fl (ns.map D.int)),some (.int c),some (.int n),some (.fl (Cq nm n)),some (.int k),x5,some (.int b),x7,x8,x9,x10,x11,x12] H=
   Sv [some (.fl (ns.map D.int)),some (.int c),some (.int n),some (.fl (Cq nm n)),some (.int k),x5,some (.int b),some (.int s),x8,x9,x10,x11,x12] H:=by
  have hm:0 < (n:Int) - k:=by lia
  have hm':(k:Int) < n:=by lia
  by_cases hw:c / 280 % 3=1∨dns=true
  ·refine ⟨min 1 ((n:Int) - 1 - k),by lia,by lia,λH x5 x7 x8 x9 x10 x11 x12=> ?_⟩;unfold X3 ZCC;by_cases hw1:c / 280 % 3=1
   ·simp [h1,hm,hm',hk,hw1]
   ·have hw2:dns=true:=by
     rcases hw with z | z
     ·exact absurd z hw1
     ·exact z
    simp [h1,hm,hm',hk,hw1,cdn,hw2]
  ·refine ⟨f (b + 1) % ((n:Int) - k),Int.emod_nonneg _ (by lia),Int.emod_lt_of_pos _ hm,λH x5 x7 x8 x9 x10 x11 x12=> ?_⟩;have hw1:¬c / 280 % 3=1:=λz=>hw (.inl z)
   have hw2:dns=false:=by
    cases dns with
    | false=>rfl
    | true=>exact absurd (.inr rfl) hw
   unfold X3 ZCC;simp [h1,hm,hm',hk,hw1,cdn,hw2]
 obtain ⟨dn,dl,hdn,hdl,hr⟩:∃(dn:Option Nat) (dl:Nat),(∀d,dn=some d->k < d/\d < n)/\dl<=5/\∀(H:DH) (x5 x8 x9 x10 x11 x12:Option D),Sv [some (.fl (ns.map D.int)),some (.int c),some (.int n),some (.fl (Cq nm n)),some (.int k),x5,some (.int b),some (.int s),x8,x9,x10,x11,x12] H=
   Kl [some (.fl (ns.map D.int)),some (.int c),some (.int n),some (.fl (Cq nm n)),some (.int k),x5,some (.int b),some (.int s),some (.int (f (b + 2))),some (.tup [.str (dnS nm dn),.int dl]),x10,x11,x12] H:=by
  have hd:((f (b + 2) % 2 * (f (b + 2) / 2 % 6)).toNat:Int)=f (b + 2) % 2 * (f (b + 2) / 2 % 6)/\(f (b + 2) % 2 * (f (b + 2) / 2 % 6)).toNat<=5:=by rcases (by lia:f (b + 2) % 2=0∨f (b + 2) % 2=1) with z | z <;> rw [z] <;> lia
  have md:∀G,Bh (.int (f (b + 2) % 2)) (.int (f (b + 2) / 2 % 6)) G=.ok (.int (f (b + 2) % 2 * (f (b + 2) / 2 % 6))) G:=λG=>Kw (by lia) (by lia)
  generalize f (b + 2) % 2 * (f (b + 2) / 2 % 6)=w at hd md;by_cases hp:0 < s
  ·have a2:atI (Cq nm n) ((k:Int) + s)=some (.str (nm (k + s.toNat))):=by have:=Zi (nm:=nm) (n:=n) (k:=k + s.toNat) (by lia);rwa [show ((k + s.toNat:Nat):Int)=(k:Int) + s by lia] at this
   refine ⟨some (k + s.toNat),w.toNat,λd e=>by cases e;lia,hd.2,λH x5 x8 x9 x10 x11 x12=> ?_⟩;unfold Sv ZD8 ZDf;simp [h2,md,hp,a2,Bo,dnS,hd.1]
  ·refine ⟨none,w.toNat,(λd e=>nomatch e),hd.2,λH x5 x8 x9 x10 x11 x12=> ?_⟩
   unfold Sv ZD8 ZDf;simp [h2,md,hp,Bo,dnS,hd.1]
 obtain ⟨kn,hkn⟩:∃kn:Int,∀(H:DH) (x5 x7 x8 x9 x10 x11 x12:Option D),Kl [some (.fl (ns.map D.int)),some (.int c),some (.int n),some (.fl (Cq nm n)),some (.int k),x5,some (.int b),x7,x8,x9,x10,x11,x12] H=
   Q9 [some (.fl (ns.map D.int)),some (.int c),some (.int n),some (.fl (Cq nm n)),some (.int k),x5,some (.int b),x7,x8,x9,some (.int kn),x11,x12] H:=by
  have fz:∀G:DH,freeze G (.ok (.ref G.length) (G++ [.lst [.int 2,.int 3,.int 2,.int 3,.int 4]]))=.ok (.fl [.int 2,.int 3,.int 2,.int 3,.int 4]) G:=λG=>Gn rfl
  cases hdn2:dns with
  | false=>
   refine ⟨f b % 5,λH x5 x7 x8 x9 x10 x11 x12=> ?_⟩;unfold Kl O3;simp [h0,cdn,hdn2]
  | true=>
   rcases (by lia:f b % 5=0∨f b % 5=1∨f b % 5=2∨f b % 5=3∨f b % 5=4) with z | z | z | z | z
   ·exact ⟨2,λH x5 x7 x8 x9 x10 x11 x12=>by unfold Kl O3;simp [h0,cdn,hdn2,z,Ao,fz]⟩
   ·exact ⟨3,λH x5 x7 x8 x9 x10 x11 x12=>by unfold Kl O3;simp [h0,cdn,hdn2,z,Ao,fz]⟩
   ·exact ⟨2,λH x5 x7 x8 x9 x10 x11 x12=>by unfold Kl O3;simp [h0,cdn,hdn2,z,Ao,fz]⟩
   ·exact ⟨3,λH x5 x7 x8 x9 x10 x11 x12=>by unfold Kl O3;simp [h0,cdn,hdn2,z,Ao,fz]⟩
   ·exact ⟨4,λH x5 x7 x8 x9 x10 x11 x12=>by unfold Kl O3;simp [h0,cdn,hdn2,z,Ao,fz]⟩
 obtain ⟨rk,hrk,hk2'⟩:∃rk:Int,0<=rk/\∀(H:DH) (x5 x7 x8 x9 x10 x11 x12:Option D),Q9 [some (.fl (ns.map D.int)),some (.int c),some (.int n),some (.fl (Cq nm n)),some (.int k),x5,some (.int b),x7,x8,x9,x10,x11,x12] H=
   Oo [some (.fl (ns.map D.int)),some (.int c),some (.int n),some (.fl (Cq nm n)),some (.int k),x5,some (.int b),x7,x8,x9,x10,some (.int (amt (f (b + 3)) u)),some (.int rk)] H:=by
  have fz:∀G:DH,freeze G (.ok (.ref G.length) (G++ [.lst [.int 4,.int 10000000000000000000000000000000000000000]]))=.ok (.fl [.int 4,.int 10000000000000000000000000000000000000000]) G:=λG=>Gn rfl
  have m0:∀x:Int,x=0∨x=1->∀y:Int,y=0∨y=1->∀G,Bh (.int x) (.int y) G=.ok (.int (x * y)) G:=λx hx y hy G=>Jq (by lia) (by lia)
  have m00:=m0 0 (.inl rfl) 0 (.inl rfl);have m01:=m0 0 (.inl rfl) 1 (.inr rfl);have m10:=m0 1 (.inr rfl) 0 (.inl rfl);have m11:=m0 1 (.inr rfl) 1 (.inr rfl);rcases (by lia:c / 840 % 2=0∨c / 840 % 2=1) with z | z
  ·refine ⟨f (b + 4) % 4,by lia,λH x5 x7 x8 x9 x10 x11 x12=> ?_⟩;unfold Q9 ZBB;cases hdn2:dns with
   | false=>simp [h3,h4,cu,fu,Kh hu,z,Ao,fz,cdn,hdn2,m01]
   | true=>simp [h3,h4,cu,fu,Kh hu,z,Ao,fz,cdn,hdn2,m00]
  ·cases hdn2:dns with
   | false=>
    refine ⟨f (b + 4) % 10000000000000000000000000000000000000000,by lia,λH x5 x7 x8 x9 x10 x11 x12=> ?_⟩;unfold Q9 ZBB;simp [h3,h4,cu,fu,Kh hu,z,Ao,fz,cdn,hdn2,m11]
   | true=>
    refine ⟨f (b + 4) % 4,by lia,λH x5 x7 x8 x9 x10 x11 x12=> ?_⟩;unfold Q9 ZBB;simp [h3,h4,cu,fu,Kh hu,z,Ao,fz,cdn,hdn2,m10]
 have hal:∀acc:List D,acc.length<=20->acc.length < 1000000:=λacc h=>by lia
 have go:∀p:Pl,(∀(G:DH) (acc:List D),acc.length<=20->
   Oo [some (.fl (ns.map D.int)),some (.int c),some (.int n),some (.fl (Cq nm n)),some (.int k),some (.ref G.length),some (.int b),some (.int s),some (.int (f (b + 2))),some (.tup [.str (dnS nm dn),.int dl]),some (.int kn),some (.int (amt (f (b + 3)) u)),some (.int rk)] (G++ [.lst acc])=
    .nx [some (.fl (ns.map D.int)),some (.int c),some (.int n),some (.fl (Cq nm n)),some (.int k),some (.ref G.length),some (.int b),some (.int s),some (.int (f (b + 2))),some (.tup [.str (dnS nm dn),.int dl]),some (.int kn),some (.int (amt (f (b + 3)) u)),some (.int rk)] (G++ [.lst (acc++ [Hw nm p])]))->
   ∀(G:DH) (acc:List D) (x6 x7 x8 x9 x10 x11 x12:Option D),acc.length<=20->∃y6 y7 y8 y9 y10 y11 y12,
   Ly [some (.fl (ns.map D.int)),some (.int c),some (.int n),some (.fl (Cq nm n)),some (.int k),some (.ref G.length),x6,x7,x8,x9,x10,x11,x12] (G++ [.lst acc])=
    .nx [some (.fl (ns.map D.int)),some (.int c),some (.int n),some (.fl (Cq nm n)),some (.int k),some (.ref G.length),y6,y7,y8,y9,y10,y11,y12] (G++ [.lst (acc++ [Hw nm p])]):=λp h9 G acc x6 x7 x8 x9 x10 x11 x12 ha=>by
  refine ⟨some (.int b),some (.int s),some (.int (f (b + 2))),some (.tup [.str (dnS nm dn),.int dl]),some (.int (kn)),some (.int (amt (f (b + 3)) u)),some (.int rk),?_⟩
  ·unfold Ly;have e:(sAs (dOp Ay (dC (.int 6)) (dOp Bh (dC (.int 12)) (dV 4))) (gV 6)) [some (.fl (ns.map D.int)),some (.int c),some (.int n),some (.fl (Cq nm n)),some (.int k),some (.ref G.length),x6,x7,x8,x9,x10,x11,x12] (G++ [.lst acc])=.nx [some (.fl (ns.map D.int)),some (.int c),some (.int n),some (.fl (Cq nm n)),some (.int k),some (.ref G.length),some (.int b),x7,x8,x9,x10,x11,x12] (G++ [.lst acc]):=by simp [m12,e6]
   rw [Zh,e,ZBf,hs,hr,hkn,hk2'];exact h9 G acc ha
 by_cases hk1:kn < 2
 ·obtain ⟨r,q,hr1,hq,cr⟩:=cb (dnS nm dn) dl
  refine ⟨⟨nm k,dn,dl,.basin (amt (f (b + 3)) u) r q⟩,⟨rfl,hdn,hdl,λb' r' q' e=> ?_,(λ_ _ e=>nomatch e),(λ_ e=>nomatch e)⟩,go _ λG acc ha=> ?_⟩
  ·cases e;exact ⟨ZAw hu,hr1,hq⟩
  ·have fr:∀G:DH,freeze G (.ok (.tup [.str "basin",.str (nm k),.str (dnS nm dn),.int dl,.int (amt (f (b + 3)) u),.tup (r.map Cy),Jm nm q]) G)=.ok (.tup [.str "basin",.str (nm k),.str (dnS nm dn),.int dl,.int (amt (f (b + 3)) u),.tup (r.map Cy),Jm nm q]) G:=λG=>Nr (by simp)
   unfold Oo;simp [hk1,cr,fr,Di,Eg,hal acc ha,Hw]
 ·by_cases hk3:kn < 4
  ·refine ⟨⟨nm k,dn,dl,.town (amt (f (b + 3)) u) rk⟩,⟨rfl,hdn,hdl,(λ_ _ _ e=>nomatch e),λa b' e=> ?_,(λ_ e=>nomatch e)⟩,go _ λG acc ha=> ?_⟩
   ·cases e;exact ⟨ZAw hu,hrk⟩
   ·unfold Oo;simp [hk1,hk3,ak,Bo,Di,Eg,hal acc ha,Hw]
  ·refine ⟨⟨nm k,dn,dl,.mill (amt (f (b + 3)) u)⟩,⟨rfl,hdn,hdl,(λ_ _ _ e=>nomatch e),(λ_ _ e=>nomatch e),λa e=> ?_⟩,go _ λG acc ha=> ?_⟩
   ·cases e;exact ZAw hu
   ·unfold Oo;simp [hk1,hk3,ak,Bo,Di,Eg,hal acc ha,Hw]
theorem ZFp {n:Nat} {P:Nat->Pl} 
  (hd:∀k,k < n->∀(acc:List D) (x6 x7 x8 x9 x10 x11 x12:Option D),acc.length<=20->∃y6 y7 y8 y9 y10 y11 y12,
   Ly [some (.fl (ns.map D.int)),some (.int c),some (.int n),some (.fl (Cq nm n)),some (.int k),some (.ref G.length),x6,x7,x8,x9,x10,x11,x12] (G++ [.lst acc])=
    .nx [some (.fl (ns.map D.int)),some (.int c),some (.int n),some (.fl (Cq nm n)),some (.int k),some (.ref G.length),y6,y7,y8,y9,y10,y11,y12] (G++ [.lst (acc++ [Hw nm (P k)])])):
  ∀(m k:Nat) (acc:List D) (x4 x6 x7 x8 x9 x10 x11 x12:Option D),k + m=n->acc.length + m<=20->∃y4 y6 y7 y8 y9 y10 y11 y12,
   Bg (gV 4) Ly (Cg k m) [some (.fl (ns.map D.int)),some (.int c),some (.int n),some (.fl (Cq nm n)),x4,some (.ref G.length),x6,x7,x8,x9,x10,x11,x12] (G++ [.lst acc])=
    .nx [some (.fl (ns.map D.int)),some (.int c),some (.int n),some (.fl (Cq nm n)),y4,some (.ref G.length),y6,y7,y8,y9,y10,y11,y12] (G++ [.lst (acc++(List.range' k m).map λi=>Hw nm (P i))])
 | 0,k,acc,x4,x6,x7,x8,x9,x10,x11,x12,e,ha=>⟨x4,x6,x7,x8,x9,x10,x11,x12,by rw [Ob,Ec];simp⟩
 | m + 1,k,acc,x4,x6,x7,x8,x9,x10,x11,x12,e,ha=>by
  obtain ⟨y6,y7,y8,y9,y10,y11,y12,hb⟩:=hd k (by lia) acc x6 x7 x8 x9 x10 x11 x12 (by lia);obtain ⟨z4,z6,z7,z8,z9,z10,z11,z12,ih⟩:=ZFp hd m (k + 1) (acc++ [Hw nm (P k)]) (some (.int k)) y6 y7 y8 y9 y10 y11 y12 (by lia) (by simp;lia);refine ⟨z4,z6,z7,z8,z9,z10,z11,z12,?_⟩;rw [Kp,Dk];simp only [Do,R.Dj,List.set,hb,Dt];have e1:((k:Int) + 1)=((k + 1:Nat):Int):=by lia
  rw [e1,ih];simp [List.range'_succ]
structure Told (h:Hs) (yr:Int):Prop where
 good:GoodH h
 one:1<=h.n
 ey:h.yr=yr
 ok:∃nm:Nat->Str,∀k,k < h.n->PlOk yr nm h.n k (h.pl k)
theorem ZOE:∃n:Nat,1<=n/\n<=12/\(n:Int)=if c / 5 % 8=1 then 6 + c / 40 % 7 else 1 + c % 5 + (if dns=true then 1 else 0):=by
 by_cases h:c / 5 % 8=1
 ·exact ⟨(6 + c / 40 % 7).toNat,by lia,by lia,by rw [if_pos h];lia⟩
 ·cases dns with
  | true=>exact ⟨(1 + c % 5 + 1).toNat,by lia,by lia,by rw [if_neg h];simp;lia⟩
  | false=>exact ⟨(1 + c % 5).toNat,by lia,by lia,by rw [if_neg h];simp;lia⟩
theorem ZQL (hf:∀k:Nat,k<=1000->∀G,Bc [.fl (ns.map D.int),.int k] G=.ok (.int (f k)) G) (hyr:1<=yr/\yr<=24) (cy:∀G,Jz [.fl (ns.map D.int)] G=.ok (.int yr) G) (hu:0 < u) (cu:∀G,Gf [.fl (ns.map D.int)] G=.ok (.int u) G):
  ∃h:Hs,Told h yr/\∀G,Vl [.fl (ns.map D.int)] G=.ok h.enc G:=by
 have f2:∀G,Bc [.fl (ns.map D.int),.int 2] G=.ok (.int (f 2)) G:=hf 2 (by lia);have cdn:∀G,I8 [.fl (ns.map D.int)] G=.ok (.bl (decide (f 2 % 2=1))) G:=λG=>by unfold I8 Km;rw [Be];simp [f2,Bd]
 generalize decide (f 2 % 2=1)=dns at cdn;obtain ⟨n,hn1,hn,en⟩:=ZOE (c:=f 0) (dns:=dns);let nm:Nat->Str:=λk=>Ea (Fw (f 5) n k)
 have ex:∀k:Nat,∃p:Pl,k < n->(PlOk yr nm n k p/\∀(G:DH) (acc:List D) (x6 x7 x8 x9 x10 x11 x12:Option D),acc.length<=20->∃y6 y7 y8 y9 y10 y11 y12,
   Ly [some (.fl (ns.map D.int)),some (.int (f 0)),some (.int n),some (.fl (Cq nm n)),some (.int k),some (.ref G.length),x6,x7,x8,x9,x10,x11,x12] (G++ [.lst acc])=
    .nx [some (.fl (ns.map D.int)),some (.int (f 0)),some (.int n),some (.fl (Cq nm n)),some (.int k),some (.ref G.length),y6,y7,y8,y9,y10,y11,y12] (G++ [.lst (acc++ [Hw nm p])])):=λk=>by
  by_cases hk:k < n
  ·obtain ⟨p,hp⟩:=ZJ8 (nm:=nm) (c:=f 0) hf hyr cy hu cu cdn hk hn;exact ⟨p,λ_=>hp⟩
  ·exact ⟨ZCW,λz=>absurd z hk⟩
 let P:Nat->Pl:=λk=>(ex k).choose
 have hP:=λ(k:Nat) (hk:k < n)=>((ex k).choose_spec hk).1
 have hB:=λ(k:Nat) (hk:k < n)=>((ex k).choose_spec hk).2
 let h:Hs:=⟨yr,(List.range n).map P⟩;have hnn:h.n=n:=by simp [h,Hs.n]
 have hpl:∀k,k < n->h.pl k=P k:=λk hk=>by simp [h,Hs.pl,hk]
 have hg:GoodH h:=by
  refine ⟨?_,by lia,?_,?_,?_,?_,?_,?_,?_⟩
  ·show 0 < yr;lia
  ·intro i j hi hj e;rw [hnn] at hi hj;rw [hpl i hi,hpl j hj,(hP i hi).nm,(hP j hj).nm] at e;exact ZQ9 hn hi hj (ZHJ e)
  ·intro i hi;rw [hnn] at hi;rw [hpl i hi,(hP i hi).nm];exact ZPN
  ·intro k d hk e;rw [hnn] at hk ⊢;rw [hpl k hk] at e;exact (hP k hk).dn d e
  ·intro k hk;rw [hnn] at hk;rw [hpl k hk];exact (hP k hk).dl
  ·intro k b r to dl m hk e;rw [hnn] at hk ⊢;rw [hpl k hk] at e;exact ((hP k hk).basin _ _ _ e).2.2 to dl m rfl
  ·intro k b r q hk e;rw [hnn] at hk;rw [hpl k hk] at e;have:=(hP k hk).basin _ _ _ e;exact ⟨this.1,λs hs=>(this.2.1.good s hs).1⟩
  ·intro k a b hk e;rw [hnn] at hk;rw [hpl k hk] at e;exact (hP k hk).town _ _ e
 refine ⟨h,⟨hg,by lia,rfl,nm,λk hk=>by rw [hnn] at hk ⊢;rw [hpl k hk];exact hP k hk⟩,λG=> ?_⟩;have hdT:∀o:Option Nat,(∀d,o=some d->d < n)->h.dnT o=dnS nm o:=λo ho=>by
  cases o with
  | none=>rfl
  | some d=>
   show (h.pl d).nm=nm d;rw [hpl d (ho d rfl),(hP d (ho d rfl)).nm]
 have henc:h.Ce=(List.range' 0 n).map λi=>Hw nm (P i):=by
  show ((List.range n).map P).map h.encP=_;rw [List.map_map,List.range_eq_range'];refine List.map_congr_left λk hk=> ?_
  have hk':k < n:=by have:=List.mem_range'_1.mp hk;lia
  have ok:=hP k hk';show h.encP (P k)=Hw nm (P k);have ed:=hdT (P k).dn λd e=>(ok.dn d e).2
  unfold Hs.encP Hw;rw [ed];cases e:(P k).kd with
  | basin b r q=>
   have hq:=(ok.basin b r q e).2.2;cases q with
   | none=>rfl
   | some q=>
    obtain ⟨to,dl,m⟩:=q;have ht:=(hq to dl m rfl).1;have e2:(h.pl to).nm=nm to:=by rw [hpl to ht,(hP to ht).nm]
    simp [Hs.Mu,Jm,e2]
  | town a b=>rfl
  | mill a=>rfl
 obtain ⟨y4,y6,y7,y8,y9,y10,y11,y12,hL⟩:=ZFp (G:=G) (P:=P) (nm:=nm) (c:=f 0) (n:=n) (ns:=ns) (λk hk=>hB k hk G) n 0 [] none none none none none none none none (by lia) (by simp;lia);rw [<-henc] at hL;have hL':Bg (gV 4) Ly (Cg 0 n) [some (.fl (ns.map D.int)),some (.int (f 0)),some (.int n),some (.fl (Cq nm n)),none,some (.ref G.length),none,none,none,none,none,none,none] (G++ [.lst []])=
    .nx [some (.fl (ns.map D.int)),some (.int (f 0)),some (.int n),some (.fl (Cq nm n)),y4,some (.ref G.length),y6,y7,y8,y9,y10,y11,y12] (G++ [.lst h.Ce]):=hL
 have f0:∀G,Bc [.fl (ns.map D.int),.int 0] G=.ok (.int (f 0)) G:=hf 0 (by lia);have f5:∀G,Bc [.fl (ns.map D.int),.int 5] G=.ok (.int (f 5)) G:=hf 5 (by lia);have cp:∀G:DH,Eb (gV 0) Ci ZEQ [none,some (.fl (ns.map D.int)),some (.int n)] (Cg 0 n) G=.ok (Cq nm n) G:=λG=>Zj λk hk=>by unfold ZEQ;simp [f5,ZQX hn hk,nm]
 have fz:freeze G (.ok (.ref G.length) (G++ [.lst (Cq nm n)]))=.ok (.fl (Cq nm n)) G:=Gn ZLh;have hr:inR (n:Int):=Gr (by lia) (by lia);have hnl:n<=1000000:=by lia
 have eh:h.enc=.tup [.int yr,.tup h.Ce]:=rfl;unfold Vl Vn;rw [Be];by_cases hw:f 0 / 5 % 8=1
 ·rw [if_pos hw] at en;simp [Pg,hnl,f0,hw,<-en,hr,Bf,cp,fz,Ao,Es,hL',cy,Di,Bo,O4,eh,cdn]
 ·rw [if_neg hw] at en;cases hdn:dns with
  | true=>
   rw [hdn,if_pos rfl] at en;simp [Pg,hnl,f0,hw,<-en,hr,Bf,cp,fz,Ao,Es,hL',cy,Di,Bo,O4,eh,cdn,hdn]
  | false=>
   rw [hdn,if_neg (by simp),Int.add_zero] at en;simp [Pg,hnl,f0,hw,<-en,hr,Bf,cp,fz,Ao,Es,hL',cy,Di,Bo,O4,eh,cdn,hdn]
noncomputable def thr (c:Int):Nat->Int
 | 0=>c
 | j + 1=>thr (c / 3) j
theorem ZMr {s0 s1 s2 s4 s5 s6 s7 s8:Option D} (G:DH):
  ∃y,Bg (gV 11) Qx (Cg 0 5) [s0,s1,s2,some (.int u),s4,s5,s6,s7,s8,some (.int c),some (.ref G.length),x] (G++ [.lst []])=.nx [s0,s1,s2,some (.int u),s4,s5,s6,s7,s8,y,some (.ref G.length),some (.int 4)] (G++ [.lst (tab 5 λj=>u * (thr c j % 3))]):=by
 have hb:∀(c:Int) (acc:List D) (x:Option D),acc.length<=10->Qx [s0,s1,s2,some (.int u),s4,s5,s6,s7,s8,some (.int c),some (.ref G.length),x] (G++ [.lst acc])=.nx [s0,s1,s2,some (.int u),s4,s5,s6,s7,s8,some (.int (c / 3)),some (.ref G.length),x] (G++ [.lst (acc++ [.int (u * (c % 3))])]):=λc acc x ha=>by
  have m:∀G,Bh (.int u) (.int (c % 3)) G=.ok (.int (u * (c % 3))) G:=λG=>Kw (by lia) (by lia)
  have hal:acc.length < 1000000:=by lia
  unfold Qx ZIW;simp [m,Di,Eg,hal]
 have e:Cg 0 5= [.int 0,.int 1,.int 2,.int 3,.int 4]:=rfl;refine ⟨some (.int (c / 3 / 3 / 3 / 3 / 3)),?_⟩;rw [e];simp only [Dk,Ec,Do,R.Dj,List.set,Dt];rw [hb _ _ _ (by simp)];simp only [Dt,Dk,Ec,Do,R.Dj,List.set];rw [hb _ _ _ (by simp)];simp only [Dt,Dk,Ec,Do,R.Dj,List.set];rw [hb _ _ _ (by simp)];simp only [Dt,Dk,Ec,Do,R.Dj,List.set];rw [hb _ _ _ (by simp)];simp only [Dt,Dk,Ec,Do,R.Dj,List.set];rw [hb _ _ _ (by simp)]
 simp only [Dt,Dk,Ec,Do,R.Dj,List.set];simp [tab5,thr]
noncomputable def lvS (h:Hs) (f:Nat->Int) (u:Int) (k:Nat):Int:=match (h.pl k).kd with
 | .basin b _ _=>amt (f (6 + 12 * h.n + k)) u % (b + 1)
 | _=>0
noncomputable def coS (h:Hs) (f:Nat->Int) (u:Int) (k j:Nat):Int:=u * (thr (f (6 + 12 * h.n + h.n + k)) j % 3)
theorem ZKO (hu:0 < u) (k j:Nat):0<=coS h f u k j:=Int.mul_nonneg (by lia) (by lia)
theorem ZFg (g:GoodH h) (hk:k < h.n):0<=lvS h f u k/\(∀b r q,(h.pl k).kd=.basin b r q->lvS h f u k<=b)/\((h.pl k).kd.isB=false->lvS h f u k=0):=by
 unfold lvS;cases e:(h.pl k).kd with
 | basin b r q=>
  have:=(g.brim k b r q hk e).1
  refine ⟨Int.emod_nonneg _ (by lia),λb' r' q' e'=> ?_,λz=>nomatch z⟩
  cases e';show amt (f (6 + 12 * h.n + k)) u % (b + 1)<=b;have:=Int.emod_lt_of_pos (amt (f (6 + 12 * h.n + k)) u) (show 0 < b + 1 by lia);lia
 | town a b=>exact ⟨Int.le_refl _,(λ_ _ _ z=>nomatch z),λ_=>rfl⟩
 | mill a=>exact ⟨Int.le_refl _,(λ_ _ _ z=>nomatch z),λ_=>rfl⟩
theorem ZHk (hf:∀k:Nat,k<=1000->∀G,Bc [.fl (ns.map D.int),.int k] G=.ok (.int (f k)) G) {u:Int} (hu:0 < u) (g:GoodH h) {s1:Option D} {G:DH}:∀(m k:Nat) (L:DH) (x7 x8 x9 x10 x11:Option D),k + m=h.n->∃L' y7 y8 y9 y10 y11,
  Bg (gV 7) Ss (Cg k m) [some (.fl (ns.map D.int)),s1,some (.tup h.Ce),some (.int u),some (.int ((6 + 12 * h.n:Nat):Int)),some (.ref G.length),some (.ref (G.length + 1)),x7,x8,x9,x10,x11] (G++ .lst (tab k (lvS h f u)):: .lst (Ck k (coS h f u))::L)=
   .nx [some (.fl (ns.map D.int)),s1,some (.tup h.Ce),some (.int u),some (.int ((6 + 12 * h.n:Nat):Int)),some (.ref G.length),some (.ref (G.length + 1)),y7,y8,y9,y10,y11] (G++ .lst (tab h.n (lvS h f u)):: .lst (Ck h.n (coS h f u))::L')
 | 0,k,L,x7,x8,x9,x10,x11,e=>by
  have e1:k=h.n:=by lia
  subst e1;exact ⟨L,x7,x8,x9,x10,x11,by rw [Ob,Ec]⟩
 | m + 1,k,L,x7,x8,x9,x10,x11,e=>by
  have hk:k < h.n:=by lia
  have hn:=g.len;let c:Int:=f (6 + 12 * h.n + h.n + k);let G1:DH:=G++ .lst (tab (k + 1) (lvS h f u)):: .lst (Ck k (coS h f u))::L;obtain ⟨y,hR⟩:=ZMr (u:=u) (c:=c) (s0:=some (.fl (ns.map D.int))) (s1:=s1) (s2:=some (.tup h.Ce)) (s4:=some (.int ((6 + 12 * h.n:Nat):Int))) (s5:=some (.ref G.length)) (s6:=some (.ref (G.length + 1))) (s7:=some (.int k)) (s8:=some (.int (lvS h f u k))) (x:=x11) G1;obtain ⟨L',y7,y8,y9,y10,y11,ih⟩:=ZHk hf hu g m (k + 1) (L++ [.lst (tab 5 (coS h f u k))]) (s1:=s1) (G:=G) (some (.int k)) (some (.int (lvS h f u k))) y (some (.ref G1.length)) (some (.int 4)) (by lia)
  refine ⟨L',y7,y8,y9,y10,y11,?_⟩;have ap:atI h.Ce (k:Int)=some (h.encP (h.pl k)):=Hs.Dr hk;have c1:∀G,Bc [.fl (ns.map D.int),.int (((6 + 12 * h.n:Nat):Int) + (k:Int))] G=.ok (.int (f (6 + 12 * h.n + k))) G:=λG=>by have:=hf (6 + 12 * h.n + k) (by lia) G;rwa [show ((6 + 12 * h.n + k:Nat):Int)=((6 + 12 * h.n:Nat):Int) + k by lia] at this
  have c2:∀G,Bc [.fl (ns.map D.int),.int (((6 + 12 * h.n:Nat):Int) + (h.n:Int) + (k:Int))] G=.ok (.int c) G:=λG=>by have:=hf (6 + 12 * h.n + h.n + k) (by lia) G;rwa [show ((6 + 12 * h.n + h.n + k:Nat):Int)=((6 + 12 * h.n:Nat):Int) + h.n + k by lia] at this
  have hbb:(6 + 12 * h.n:Nat)=(6 + 12 * h.n):=rfl;generalize hB:((6 + 12 * h.n:Nat):Int)=B at c1 c2 hR ih ⊢;have t1:∀(H:DH) (x9 x10 x11:Option D),Ss [some (.fl (ns.map D.int)),s1,some (.tup h.Ce),some (.int u),some (.int B),some (.ref G.length),some (.ref (G.length + 1)),some (.int k),x8,x9,x10,x11] H=Xu [some (.fl (ns.map D.int)),s1,some (.tup h.Ce),some (.int u),some (.int B),some (.ref G.length),some (.ref (G.length + 1)),some (.int k),some (.int (lvS h f u k)),x9,x10,x11] H:=λH x9 x10 x11=>by
   unfold Ss ZGR lvS;cases e:(h.pl k).kd with
   | basin b r q=>
    have hb0:=(g.brim k b r q hk e).1;have e4:∀G,Ai (h.encP (h.pl k)) (.int 4) G=.ok (.int b) G:=λG=>by unfold Hs.encP;rw [e];simp
    have hb1:0 < b + 1:=by lia
    have hb2:¬b + 1=0:=by lia
    simp [ap,G7,e,Kd.isB,c1,Kh hu,e4,hb1,hb2]
   | town a b=>simp [ap,G7,e,Kd.isB]
   | mill a=>simp [ap,G7,e,Kd.isB]
  have hl1:k < 1000000:=by lia
  have et:tab k (lvS h f u)++ [.int (lvS h f u k)]=tab (k + 1) (lvS h f u):=by simp [tab,List.range_succ]
  have er:Ck k (coS h f u)++ [.tup (tab 5 (coS h f u k))]=Ck (k + 1) (coS h f u):=by simp [Ck,List.range_succ]
  have t2:Xu [some (.fl (ns.map D.int)),s1,some (.tup h.Ce),some (.int u),some (.int B),some (.ref G.length),some (.ref (G.length + 1)),some (.int k),some (.int (lvS h f u k)),x9,x10,x11] (G++ .lst (tab k (lvS h f u)):: .lst (Ck k (coS h f u))::L)=Wh [some (.fl (ns.map D.int)),s1,some (.tup h.Ce),some (.int u),some (.int B),some (.ref G.length),some (.ref (G.length + 1)),some (.int k),some (.int (lvS h f u k)),some (.int c),some (.ref G1.length),x11] (G1++ [.lst []]):=by
   have tn:tidy G1 (.ok (.ref G1.length) (G1++ [.lst []]))=.ok (.ref G1.length) (G1++ [.lst []]):=Es rfl;unfold Xu ZIN ZHV;have a1:(sEx (Fv Fq (dV 5) (Ab (dV 8) Ae))) [some (.fl (ns.map D.int)),s1,some (.tup h.Ce),some (.int u),some (.int B),some (.ref G.length),some (.ref (G.length + 1)),some (.int k),some (.int (lvS h f u k)),x9,x10,x11] (G++ .lst (tab k (lvS h f u)):: .lst (Ck k (coS h f u))::L)=.nx [some (.fl (ns.map D.int)),s1,some (.tup h.Ce),some (.int u),some (.int B),some (.ref G.length),some (.ref (G.length + 1)),some (.int k),some (.int (lvS h f u k)),x9,x10,x11] G1:=by
    simp [Di,Eg,hl1,et,G1]
   rw [Zh,a1,ZBf]
   clear_value G1
   simp [Hs.K5,c2,Ao,tn]
  have t5:Wh [some (.fl (ns.map D.int)),s1,some (.tup h.Ce),some (.int u),some (.int B),some (.ref G.length),some (.ref (G.length + 1)),some (.int k),some (.int (lvS h f u k)),some (.int c),some (.ref G1.length),x11] (G1++ [.lst []])=.nx [some (.fl (ns.map D.int)),s1,some (.tup h.Ce),some (.int u),some (.int B),some (.ref G.length),some (.ref (G.length + 1)),some (.int k),some (.int (lvS h f u k)),y,some (.ref G1.length),some (.int 4)] (G++ .lst (tab (k + 1) (lvS h f u)):: .lst (Ck (k + 1) (coS h f u))::(L++ [.lst (tab 5 (coS h f u k))])):=by
   have hr:inR 5:=Gr (by lia) (by lia);have eC:(tab 5 λj=>u * (thr c j % 3))=tab 5 (coS h f u k):=rfl;rw [eC] at hR;unfold Wh;have a1:(Dv (Dh rng1 (Ab (dC (.int 5)) Ae)) (gV 11) Qx) [some (.fl (ns.map D.int)),s1,some (.tup h.Ce),some (.int u),some (.int B),some (.ref G.length),some (.ref (G.length + 1)),some (.int k),some (.int (lvS h f u k)),some (.int c),some (.ref G1.length),x11] (G1++ [.lst []])=.nx [some (.fl (ns.map D.int)),s1,some (.tup h.Ce),some (.int u),some (.int B),some (.ref G.length),some (.ref (G.length + 1)),some (.int k),some (.int (lvS h f u k)),y,some (.ref G1.length),some (.int 4)] (G1++ [.lst (tab 5 (coS h f u k))]):=by
    simp [hr,hR]
   rw [Zh,a1,ZBf];have gl:(G1++ [DO.lst (tab 5 (coS h f u k))])[G1.length]? =some (.lst (tab 5 (coS h f u k))):=by simp
   have gc:(G1++ [DO.lst (tab 5 (coS h f u k))])[G.length + 1]? =some (.lst (Ck k (coS h f u))):=by simp [G1]
   have gs:(G1++ [DO.lst (tab 5 (coS h f u k))]).set (G.length + 1) (.lst (Ck (k + 1) (coS h f u)))=(G++ .lst (tab (k + 1) (lvS h f u)):: .lst (Ck (k + 1) (coS h f u))::(L++ [.lst (tab 5 (coS h f u k))])):=by simp [G1]
   generalize G1++ [DO.lst (tab 5 (coS h f u k))]=G2 at gl gc gs;unfold ZF0;simp [gl,gc,hl1,er,gs]
  rw [Kp,Dk];simp only [Do,R.Dj,List.set,t1,t2,t5,Dt];have e1:((k:Int) + 1)=((k + 1:Nat):Int):=by lia
  rw [e1,ih]
theorem ZKv (hf:∀k:Nat,k<=1000->∀G,Bc [.fl (ns.map D.int),.int k] G=.ok (.int (f k)) G) (hu:0 < u) (cu:∀G,Gf [.fl (ns.map D.int)] G=.ok (.int u) G) (g:GoodH h) (G:DH):
  Ys [.fl (ns.map D.int),h.enc] G=.ok (stD h.n (lvS h f u) (coS h f u)) G:=by
 obtain ⟨L',y7,y8,y9,y10,y11,hL⟩:=ZHk hf hu g (s1:=some h.enc) (G:=G) h.n 0 [] none none none none none (by lia);have hL':Bg (gV 7) Ss (Cg 0 h.n) [some (.fl (ns.map D.int)),some h.enc,some (.tup h.Ce),some (.int u),some (.int ((6 + 12 * h.n:Nat):Int)),some (.ref G.length),some (.ref (G.length + 1)),none,none,none,none,none] (G++ [.lst [],.lst []])=
   .nx [some (.fl (ns.map D.int)),some h.enc,some (.tup h.Ce),some (.int u),some (.int ((6 + 12 * h.n:Nat):Int)),some (.ref G.length),some (.ref (G.length + 1)),y7,y8,y9,y10,y11] (G++ .lst (tab h.n (lvS h f u)):: .lst (Ck h.n (coS h f u))::L'):=hL
 have hn:=g.len;have m12:∀G,Bh (.int 12) (.int (h.n:Int)) G=.ok (.int (12 * (h.n:Int))) G:=λG=>Jq (by lia) (by lia)
 have e6:(6 + 12 * (h.n:Int))=((6 + 12 * h.n:Nat):Int):=by lia
 generalize hB:((6 + 12 * h.n:Nat):Int)=B at hL' e6;have fu:freeze G (.ok (.int u) G)=.ok (.int u) G:=Nr rfl;have hr:inR (h.n:Int):=Gr (by lia) (by lia);have t1:tidy (G++ [.lst []]) (.ok (.ref (G.length + 1)) (G++ [.lst [],.lst []]))=.ok (.ref (G.length + 1)) (G++ [.lst [],.lst []]):=by have:=Es (G:=G++ [.lst []]) (ds:= []) (L:= []) rfl;simpa using this
 have g0:(G++ .lst (tab h.n (lvS h f u)):: .lst (Ck h.n (coS h f u))::L')[G.length]? =some (.lst (tab h.n (lvS h f u))):=by simp
 have g1:(G++ .lst (tab h.n (lvS h f u)):: .lst (Ck h.n (coS h f u))::L')[G.length + 1]? =some (.lst (Ck h.n (coS h f u))):=by simp
 have tp:tidy G (.ok (stD h.n (lvS h f u) (coS h f u)) (G++ .lst (tab h.n (lvS h f u)):: .lst (Ck h.n (coS h f u))::L'))=.ok (stD h.n (lvS h f u) (coS h f u)) G:=O4 (by simp [stD,Q5]);generalize G++DO.lst (tab h.n (lvS h f u))::DO.lst (Ck h.n (coS h f u))::L'=G2 at hL' g0 g1 tp;unfold stD at tp ⊢;unfold Ys ZBE;rw [Be];simp [By,cu,fu,Hs.K5,m12,e6,Ao,Es,t1,hr,hL',g0,g1,Bo,tp]
noncomputable def flE (n:Nat) (f:Nat->Int) (u:Int) (dns:Bool) (k:Nat):Int:=if dns=true then u * (f (6 + 14 * n + k) % 3) else amt (f (6 + 14 * n + k)) u
theorem ZRn {n:Nat} (hu:0 < u) (k:Nat):0<=flE n f u dns k:=by
 unfold flE;split
 ·exact Int.mul_nonneg (by lia) (by lia)
 ·exact ZAw hu
theorem ZKq {o:DO} (h:∀m,bels m ds=true):freeze (G++ [o]) (.ok (.ref (G.length + 1)) (G++ [o,.lst ds]))=.ok (.fl ds) (G++ [o]):=by have:=Gn (G:=G++ [o]) (ds:=ds) (L:= []) (h _);simpa using this
theorem ZPn (hf:∀k:Nat,k<=1000->∀G,Bc [.fl (ns.map D.int),.int k] G=.ok (.int (f k)) G) (hu:0 < u) (cu:∀G,Gf [.fl (ns.map D.int)] G=.ok (.int u) G) (cdn:∀G,I8 [.fl (ns.map D.int)] G=.ok (.bl dns) G) {n:Nat} (hi:6 + 14 * n + n<=1000) (hn2:n<=1000) {s1 s2 y:Option D} (G:DH):
  ZDE [some (.fl (ns.map D.int)),s1,s2,some (.int n),some (.int ((6 + 14 * n:Nat):Int)),some (.ref G.length),some (.int 0),x,y] (G++ [.lst []])=
   .nx [some (.fl (ns.map D.int)),s1,s2,some (.int n),some (.int ((6 + 14 * n:Nat):Int)),some (.ref G.length),some (.int 0),some (.fl (tab n λk=>f (6 + 14 * n + k))),some (.fl (tab n (flE n f u dns)))] (G++ [.lst [.tup (tab n (flE n f u dns))]]):=by
 have mi:∀G,Bh (.int 0) (.int (n:Int)) G=.ok (.int 0) G:=λG=>by have:=Jq (G:=G) (i:=0) (j:=(n:Int)) (by lia) (by lia);rw [this,Int.zero_mul]
 have fu:∀G,freeze G (.ok (.int u) G)=.ok (.int u) G:=λG=>Nr rfl
 have fi:∀(x:Int) G,freeze G (.ok (.int x) G)=.ok (.int x) G:=λx G=>Nr rfl
 have c1:∀G,Eb (gV 0) Ci ZDj [none,some (.fl (ns.map D.int)),some (.int n),some (.int ((6 + 14 * n:Nat):Int)),some (.int 0)] (Cg 0 n) G=.ok (tab n λk=>f (6 + 14 * n + k)) G:=λG=>
  Zj (F:=λk=>.int (f (6 + 14 * n + k))) λk hk=>by
   have h1:=hf (6 + 14 * n + k) (by lia) G;have e1:((6 + 14 * n + k:Nat):Int)=((6 + 14 * n:Nat):Int) + k:=by lia
   rw [e1] at h1;generalize ((6 + 14 * n:Nat):Int)=B at h1;unfold ZDj;simp [mi,h1]
 have c2:∀G,Eb (gV 0) Ci ZDc [none,some (.fl (ns.map D.int))] (tab n λk=>f (6 + 14 * n + k)) G=.ok (tab n λk=>amt (f (6 + 14 * n + k)) u) G:=λG=>
  Ti (E:=λk=>.int (f (6 + 14 * n + k))) (F:=λk=>.int (amt (f (6 + 14 * n + k)) u)) λk hk=>by unfold ZDc;simp [cu,fu,Kh hu]
 have c3:∀G,Eb (gV 0) Ci ZCs [none,some (.fl (ns.map D.int))] (tab n λk=>f (6 + 14 * n + k)) G=.ok (tab n λk=>u * (f (6 + 14 * n + k) % 3)) G:=λG=>
  Ti (E:=λk=>.int (f (6 + 14 * n + k))) (F:=λk=>.int (u * (f (6 + 14 * n + k) % 3))) λk hk=>by
   generalize f (6 + 14 * n + k)=c;have mu:∀G,Bh (.int u) (.int (c % 3)) G=.ok (.int (u * (c % 3))) G:=λG=>Kw (by lia) (by lia)
   unfold ZCs;simp [cu,fi,mu]
 have hr:inR (n:Int):=Gr (by lia) (by lia);have cs1:∀a b c d e f' g h i:Option D,Bf 1 [0,3,4,6] [a,b,c,d,e,f',g,h,i]= [none,a,d,e,g]:=λ_ _ _ _ _ _ _ _ _=>rfl
 have cs2:∀a b c d e f' g h i:Option D,Bf 1 [0] [a,b,c,d,e,f',g,h,i]= [none,a]:=λ_ _ _ _ _ _ _ _ _=>rfl
 have fz:∀F:Nat->Int,freeze (G++ [.lst []]) (.ok (.ref (G.length + 1)) (G++ [.lst [],.lst (tab n F)]))=.ok (.fl (tab n F)) (G++ [.lst []]):=λF=>ZKq (G:=G) (o:=.lst []) (ds:=tab n F) λ_=>Q5
 generalize ((6 + 14 * n:Nat):Int)=B at c1;have hnl:n<=1000000:=by lia
 unfold ZDE;cases hdn:dns with
 | true=>
  have ef:flE n f u true=λk=>u * (f (6 + 14 * n + k) % 3):=by funext k;simp [flE]
  rw [ef];simp [hnl,hr,cs1,cs2,c1,c2,c3,fz,Di,Eg,cdn,hdn]
 | false=>
  have ef:flE n f u false=λk=>amt (f (6 + 14 * n + k)) u:=by funext k;simp [flE]
  rw [ef];simp [hnl,hr,cs1,cs2,c1,c2,c3,fz,Di,Eg,cdn,hdn]
theorem ZPd (hf:∀k:Nat,k<=1000->∀G,Bc [.fl (ns.map D.int),.int k] G=.ok (.int (f k)) G) (hu:0 < u) (cu:∀G,Gf [.fl (ns.map D.int)] G=.ok (.int u) G) (cdn:∀G,I8 [.fl (ns.map D.int)] G=.ok (.bl dns) G) (g:GoodH h) (G:DH):
  Vk [.fl (ns.map D.int),h.enc,.int 1] G=.ok (.ref G.length) (G++ [.lst [.tup (tab h.n (flE h.n f u dns))]]):=by
 have hn:=g.len;have hb:=ZPn hf hu cu cdn (n:=h.n) (by lia) (by lia) (s1:=some h.enc) (s2:=some (.int 1)) (x:=none) (y:=none) G;have m14:∀G,Bh (.int 14) (.int (h.n:Int)) G=.ok (.int (14 * (h.n:Int))) G:=λG=>Jq (by lia) (by lia)
 have e6:(6 + 14 * (h.n:Int))=((6 + 14 * h.n:Nat):Int):=by lia
 generalize hB:((6 + 14 * h.n:Nat):Int)=B at hb e6;have hr:inR 1:=Gr (by lia) (by lia);have e1:Cg 0 1= [.int 0]:=rfl;unfold Vk Wz;rw [Be];simp [By,Hs.K5,m14,e6,Ao,Es,hr,e1,Dk,Ec,hb]
theorem ZPV (hf:∀k:Nat,k<=1000->∀G,Bc [.fl (ns.map D.int),.int k] G=.ok (.int (f k)) G):∃a:Int,0<=a/\∀G,Sh [.fl (ns.map D.int)] G=.ok (.int a) G:=by
 have h3:∀G,Bc [.fl (ns.map D.int),.int 3] G=.ok (.int (f 3)) G:=hf 3 (by lia);have fz:∀G:DH,freeze G (.ok (.ref G.length) (G++ [.lst [.int 50,.int 1000000000000000000000000000000000000000]]))=.ok (.fl [.int 50,.int 1000000000000000000000000000000000000000]) G:=λG=>Gn rfl
 rcases (by lia:f 3 % 2=0∨f 3 % 2=1) with z | z
 ·refine ⟨f 3 / 2 % 50,by lia,λG=> ?_⟩;unfold Sh Rk;rw [Be];simp [h3,z,Ao,fz,Bd]
 ·refine ⟨f 3 / 2 % 1000000000000000000000000000000000000000,by lia,λG=> ?_⟩;unfold Sh Rk;rw [Be];simp [h3,z,Ao,fz,Bd]
noncomputable def pgD (n:Nat) (pg:Nat->List Int):D:=.tup (Cm n pg)
theorem ZKn (g:GoodH h) {a:Int} (hc:∀k j,k < h.n->j < 5->0<=co k j) (hf:∀k,k < h.n->0<=fl k):(h.cs lv co a fl).NN h.n:=ZHd g h.n 0 _ (by lia) (ZIl hc hf)
noncomputable def Bm:Nat->(Nat->Int)->Int
 | 0,_=>0
 | n + 1,F=>Bm n F + F n
theorem O5:∀{n:Nat} {F F':Nat->Int},(∀i,i < n->F i=F' i)->Bm n F=Bm n F'
 | 0,_,_,_=>rfl
 | n + 1,F,F',h=>by show Bm n F + F n=Bm n F' + F' n;rw [O5 λi hi=>h i (by lia),h n (by lia)]
theorem ZJf:∀{n:Nat} {F F':Nat->Int},Bm n (λi=>F i + F' i)=Bm n F + Bm n F'
 | 0,_,_=>rfl
 | n + 1,F,F'=>by show Bm n (λi=>F i + F' i) + (F n + F' n)=(Bm n F + F n) + (Bm n F' + F' n);rw [ZJf];lia
noncomputable def Hx (pg:Nat->List Int) (j:Nat):Int:=(pg j).getD 2 0 + (pg j).getD 3 0
noncomputable def U9 (pg:Nat->List Int) (j:Nat):Int:=(pg j).getD 4 0
noncomputable def Hs.pmp (h:Hs) (k:Nat):Option (Nat×Nat):=match (h.pl k).kd with
 | .basin _ _ (some (to,dl,_))=>some (to,dl)
 | _=>none
noncomputable def Hs.c1 (h:Hs) (pg:Nat->List Int) (i j:Nat):Int:=if h.dir j=none/\h.dn j=some i/\(h.pl j).dl=0 then Hx pg j else 0
noncomputable def Hs.o1 (h:Hs) (pg:Nat->List Int) (i a j:Nat):Int:=(if h.dn j=some i/\(h.pl j).dl=a + 1 then Hx pg j else 0) + (if h.pmp j=some (i,a + 1) then U9 pg j else 0)
noncomputable def Hs.brow (h:Hs) (yt:Int) (lv:Nat->Int) (k:Nat) (c:Int):List Int:=match (h.pl k).kd with
 | .basin brim rule _=>
  let w:=lv k + c;let st:=held yt rule [];let stays:=w - rv w st - pm w st
  [c,0,stays - min stays brim,rv w st,pm w st,min stays brim]
 | _=> []
noncomputable def Hs.K8 (h:Hs) (ca:Nat->Int) (m:Nat):Nat->Int:=shr (h.rows (h.mem m) ca)
noncomputable def Hs.Ja (h:Hs) (ca:Nat->Int) (m:Nat):Nat->Int:=gath (h.rows (h.mem m) ca) λi=>col Row.water (h.rows (h.mem m) ca) i - h.K8 ca m i
theorem ZNt {ca':Nat->Int} (e:∀k∈ms,ca k=ca' k):h.rows ms ca=h.rows ms ca':=by
 unfold Hs.rows;refine List.map_congr_left λk hk=> ?_
 unfold Hs.row;rw [e k hk]
theorem ZFh:(s.send to dl c).came i=s.came i + (if to=i/\dl=0 then c else 0):=by
 unfold Cs.send;by_cases h0:dl=0
 ·simp only [h0,if_true,and_true,fset];by_cases e:i=to
  ·subst e;simp
  ·rw [if_neg e,if_neg (λz=>e z.symm)];lia
 ·simp [h0]
theorem ZI8:(s.send to dl c).coming i a=s.coming i a + (if to=i/\dl=a + 1 then c else 0):=by
 unfold Cs.send;by_cases h0:dl=0
 ·simp [h0]
 ·simp only [h0,if_false,upd2];by_cases e:i=to
  ·subst e;simp only [if_true,fset,true_and];by_cases ea:a=dl - 1
   ·have e2:dl=a + 1:=by lia
    rw [if_pos ea,if_pos e2,ea]
   ·have e2:¬dl=a + 1:=by lia
    rw [if_neg ea,if_neg e2];lia
  ·rw [if_neg e,if_neg (λz=>e z.1.symm)];lia
theorem ZCP:(h.Fi s k c).came i=s.came i + (if h.dn k=some i/\(h.pl k).dl=0 then c else 0):=by
 unfold Hs.Fi;cases e:h.dn k with
 | none=>simp
 | some d=>simp only [ZFh,Option.some.injEq]
theorem ZC2:(h.Fi s k c).coming i a=s.coming i a + (if h.dn k=some i/\(h.pl k).dl=a + 1 then c else 0):=by
 unfold Hs.Fi;cases e:h.dn k with
 | none=>simp
 | some d=>simp only [ZI8,Option.some.injEq]
theorem ZBb (hB:(h.pl k).kd.isB=true):h.dir k=none:=by
 unfold Hs.dir;cases h.dn k with
 | none=>rfl
 | some d=>simp [hB]
theorem ZEp (e:h.dir k=some d):h.dn k=some d/\(h.pl k).dl=0/\(h.pl k).kd.isB=false/\(h.pl d).kd.isB=false:=by
 unfold Hs.dir at e;cases hd:h.dn k with
 | none=>rw [hd] at e;cases e
 | some d'=>
  rw [hd] at e;simp only at e;split at e
  ·cases e
  ·rename_i hc;cases e;refine ⟨rfl,by lia,?_,?_⟩
   ·cases z:(h.pl k).kd.isB with
    | false=>rfl
    | true=>exact absurd (.inr (.inl z)) hc
   ·cases z:(h.pl d).kd.isB with
    | false=>rfl
    | true=>exact absurd (.inr (.inr z)) hc
theorem ZEo (hB:(h.pl k).kd.isB=false):h.pmp k=none:=by
 unfold Hs.pmp;cases e:(h.pl k).kd with
 | basin a b c=>rw [e] at hB;cases hB
 | town _ _=>rfl
 | mill _=>rfl
theorem ZK3 (g:GoodH h) (e:h.last k=k):h.dir k=none:=by
 cases hd:h.dir k with
 | none=>rfl
 | some d=>
  have h1:=Gx g hd;have h2:=Kv g hd;have h3:=(Hy g d).1;lia
theorem ZP0 (g:GoodH h) (hm:m < h.n) (e:h.last m=m):(h.mem m).idxOf m=(h.mem m).length - 1:=by
 have hl:=ZF3 g hm e;have hpos:0 < (h.mem m).length:=List.length_pos_of_mem (mem_iff.mpr ⟨hm,e⟩);have nd:(h.mem m).Nodup:=(O9 (h:=h) (m:=m)).imp λhab=>Nat.ne_of_lt hab
 rw [List.getLast?_eq_getElem?,List.getElem?_eq_getElem (by lia)] at hl;have h2:=Xj nd (i:=(h.mem m).length - 1) (by lia);rw [Option.some.inj hl] at h2;exact h2
structure TI (h:Hs) (yt:Int) (lv:Nat->Int) (co:Nat->Nat->Int) (fl:Nat->Int) (k:Nat) (s:Cs):Prop where
 came:∀i,i < h.n->s.came i=fl i + co i 0 + Bm k (h.c1 s.page i)
 coming:∀i a,i < h.n->a < 5->s.coming i a=K3 co i a + Bm k (h.o1 s.page i a)
 basin:∀i,i < k->i < h.n->(h.pl i).kd.isB=true->s.page i=h.brow yt lv i (s.came i)
 reach:∀i,i < h.n->(h.pl i).kd.isB=false->h.last i < k->s.page i=rrow (h.K8 s.came (h.last i)) (h.Ja s.came (h.last i)) ((h.mem (h.last i)).idxOf i)
section
variable {h:Hs} {yt:Int} {lv:Nat->Int} {co:Nat->Nat->Int} {fl:Nat->Int}
theorem ZCI {ca':Nat->Int} (e:∀k∈h.mem m,ca k=ca' k):h.K8 ca m=h.K8 ca' m/\h.Ja ca m=h.Ja ca' m:=by
 have e1:=ZNt (h:=h) e;have e2:h.K8 ca m=h.K8 ca' m:=by unfold Hs.K8;rw [e1]
 refine ⟨e2,?_⟩;unfold Hs.Ja;rw [e1,e2]
theorem ZDT (g:GoodH h) (hk:k∈h.mem m):k<=m:=by have h1:=mem_iff.mp hk;have h2:=(Hy g k).1;lia
theorem ZSE (g:GoodH h) (hk:k < h.n) (t:TI h yt lv co fl k s):TI h yt lv co fl (k + 1) (h.step yt lv s k):=by
 by_cases hB:(h.pl k).kd.isB=true
 ·
  have e:h.step yt lv s k=h.basin yt lv s k:=by unfold Hs.step;rw [if_pos hB]
  rw [e];have hdir:=ZBb hB;have hpg:=(ZEk (yt:=yt) (lv:=lv) (s:=s) hB).2;obtain ⟨brim,rule,pump,ek⟩:∃a b c,(h.pl k).kd=.basin a b c:=by
   cases e:(h.pl k).kd with
   | basin a b c=>exact ⟨a,b,c,rfl⟩
   | town _ _=>rw [e] at hB;cases hB
   | mill _=>rw [e] at hB;cases hB
  have hpk:(h.basin yt lv s k).page k=h.brow yt lv k (s.came k):=by
   unfold Hs.basin Hs.brow;rw [ek];simp only;cases pump with
   | none=>simp only;rw [Lh.2];simp
   | some q=>obtain ⟨to,dl,m⟩:=q;simp only;rw [Vf.2,Lh.2];simp
  have hout:Hx (h.basin yt lv s k).page k=rv (lv k + s.came k) (held yt rule []) + (lv k + s.came k - rv (lv k + s.came k) (held yt rule []) - pm (lv k + s.came k) (held yt rule []) - min (lv k + s.came k - rv (lv k + s.came k) (held yt rule []) - pm (lv k + s.came k) (held yt rule [])) brim):=by unfold Hx;rw [hpk];unfold Hs.brow;rw [ek];simp [List.getD];lia
  have hpmp:U9 (h.basin yt lv s k).page k=pm (lv k + s.came k) (held yt rule []):=by
   unfold U9;rw [hpk];unfold Hs.brow;rw [ek]
   rfl
  have hcame:∀i,(h.basin yt lv s k).came i=s.came i + (if h.dn k=some i/\(h.pl k).dl=0 then Hx (h.basin yt lv s k).page k else 0):=λi=>by
   rw [hout];unfold Hs.basin;rw [ek];simp only;cases hp:pump with
   | none=>simp only [ZCP]
   | some q=>
    obtain ⟨to,dl,m⟩:=q;have hd:=g.pump k brim rule to dl m hk (by rw [ek,hp]);simp only [ZFh,ZCP];rw [if_neg (show¬(to=i/\dl=0) by lia)];lia
  have hcom:∀i a,(h.basin yt lv s k).coming i a=s.coming i a + h.o1 (h.basin yt lv s k).page i a k:=λi a=>by
   unfold Hs.o1;rw [hout,hpmp];unfold Hs.basin Hs.pmp;rw [ek];simp only;cases hp:pump with
   | none=>simp [ZC2]
   | some q=>
    obtain ⟨to,dl,m⟩:=q;simp only [ZI8,ZC2,Option.some.injEq,Prod.mk.injEq];lia
  have hlow:∀i,i<=k->(h.basin yt lv s k).came i=s.came i:=λi hi=>by
   rw [hcame,if_neg]
   ·lia
   ·intro z;have:=g.dn k i hk z.1;lia
  refine ⟨λi hi=> ?_,λi a hi ha=> ?_,λi hik hi hBi=> ?_,λi hi hBi hl=> ?_⟩
  ·show _=_ + (Bm k (h.c1 (h.basin yt lv s k).page i) + h.c1 (h.basin yt lv s k).page i k);rw [hcame,t.came i hi];have e1:Bm k (h.c1 (h.basin yt lv s k).page i)=Bm k (h.c1 s.page i):=O5 λj hj=>by unfold Hs.c1 Hx;rw [hpg j (by lia)]
   rw [e1];unfold Hs.c1;simp only [hdir,true_and];lia
  ·show _=_ + (Bm k (h.o1 (h.basin yt lv s k).page i a) + h.o1 (h.basin yt lv s k).page i a k);rw [hcom,t.coming i a hi ha];have e1:Bm k (h.o1 (h.basin yt lv s k).page i a)=Bm k (h.o1 s.page i a):=O5 λj hj=>by unfold Hs.o1 Hx U9;rw [hpg j (by lia)]
   rw [e1];lia
  ·by_cases e2:i=k
   ·subst e2;rw [hpk,hlow i (Nat.le_refl _)]
   ·rw [hpg i e2,hlow i (by lia)];exact t.basin i (by lia) hi hBi
  ·have hl2:h.last i < k:=by
    rcases Nat.lt_or_ge (h.last i) k with z | z
    ·exact z
    ·have e2:h.last i=k:=by lia
     rcases Xa g h.n i (by lia) with z2 | z2
     ·rw [<-e2,z2,hBi] at hB;cases hB
     ·rw [e2,hB] at z2;cases z2
   have hle:=(Hy g i).1;rw [hpg i (by lia),t.reach i hi hBi hl2];have:=ZCI (h:=h) (m:=h.last i) (ca:=s.came) (ca':=(h.basin yt lv s k).came) λj hj=>(hlow j (by have:=ZDT g hj;lia)).symm
   rw [this.1,this.2]
 ·have hB':(h.pl k).kd.isB=false:=by
   cases z:(h.pl k).kd.isB with
   | false=>rfl
   | true=>exact absurd z hB
  by_cases hl:h.last k=k
  ·
   have e:h.step yt lv s k=h.reach s k:=by unfold Hs.step;rw [if_neg hB,if_pos hl]
   rw [e];have hdir:=ZK3 g hl;have hmem:k∈h.mem k:=mem_iff.mpr ⟨hk,hl⟩;have hpg:∀j,j ∉ h.mem k->(h.reach s k).page j=s.page j:=λj hj=>by rw [ZFK,if_neg hj]
   have hpm:∀j,j∈h.mem k->(h.reach s k).page j=rrow (h.Hl s k) (h.H9 s k) ((h.mem k).idxOf j):=λj hj=>by rw [ZFK,if_pos hj]
   have hout:Hx (h.reach s k).page k=h.H9 s k ((h.mem k).length - 1):=by unfold Hx;rw [hpm k hmem,ZP0 g hk hl];show (0:Int) + _=_;simp [rrow]
   have hcame:∀i,(h.reach s k).came i=s.came i + (if h.dn k=some i/\(h.pl k).dl=0 then Hx (h.reach s k).page k else 0):=λi=>by rw [hout];unfold Hs.reach;simp only [ZCP]
   have hcom:∀i a,(h.reach s k).coming i a=s.coming i a + (if h.dn k=some i/\(h.pl k).dl=a + 1 then Hx (h.reach s k).page k else 0):=λi a=>by rw [hout];unfold Hs.reach;simp only [ZC2]
   have hlow:∀i,i<=k->(h.reach s k).came i=s.came i:=λi hi=>by
    rw [hcame,if_neg]
    ·lia
    ·intro z;have:=g.dn k i hk z.1;lia
   have hin:∀j,j∈h.mem k->j < k->∃d,h.dir j=some d:=λj hj hjk=>by
    cases hd:h.dir j with
    | some d=>exact ⟨d,rfl⟩
    | none=>
     have h1:=Ik g hd;have h2:=(mem_iff.mp hj).2;lia
   refine ⟨λi hi=> ?_,λi a hi ha=> ?_,λi hik hi hBi=> ?_,λi hi hBi hli=> ?_⟩
   ·show _=_ + (Bm k (h.c1 (h.reach s k).page i) + h.c1 (h.reach s k).page i k);rw [hcame,t.came i hi];have e1:Bm k (h.c1 (h.reach s k).page i)=Bm k (h.c1 s.page i):=O5 λj hj=>by
     by_cases hm:j∈h.mem k
     ·obtain ⟨d,hd⟩:=hin j hm hj;unfold Hs.c1;simp [hd]
     ·unfold Hs.c1 Hx;rw [hpg j hm]
    rw [e1];unfold Hs.c1;simp only [hdir,true_and];lia
   ·show _=_ + (Bm k (h.o1 (h.reach s k).page i a) + h.o1 (h.reach s k).page i a k);rw [hcom,t.coming i a hi ha];have e1:Bm k (h.o1 (h.reach s k).page i a)=Bm k (h.o1 s.page i a):=O5 λj hj=>by
     by_cases hm:j∈h.mem k
     ·obtain ⟨d,hd⟩:=hin j hm hj;have hs:=ZEp hd;unfold Hs.o1;simp [hs.2.1,ZEo hs.2.2.1]
     ·unfold Hs.o1 Hx U9;rw [hpg j hm]
    rw [e1];unfold Hs.o1;rw [ZEo hB'];simp;lia
   ·have hik2:i < k:=by
     rcases Nat.lt_or_ge i k with z | z
     ·exact z
     ·have e2:i=k:=by lia
      rw [e2,hB'] at hBi;cases hBi
    have hm:i ∉ h.mem k:=λz=>by have h1:=(mem_iff.mp z).2;have h2:=Ik g (ZBb hBi);lia
    rw [hpg i hm,hlow i (by lia)];exact t.basin i hik2 hi hBi
   ·by_cases e2:h.last i=k
    ·have hm:i∈h.mem k:=mem_iff.mpr ⟨hi,e2⟩;rw [hpm i hm,e2];have:=ZCI (h:=h) (m:=k) (ca:=s.came) (ca':=(h.reach s k).came) λj hj=>(hlow j (ZDT g hj)).symm
     rw [<-this.1,<-this.2]
     rfl
    ·have hm:i ∉ h.mem k:=λz=>e2 (mem_iff.mp z).2
     rw [hpg i hm,t.reach i hi hBi (by lia)];have:=ZCI (h:=h) (m:=h.last i) (ca:=s.came) (ca':=(h.reach s k).came) λj hj=>(hlow j (by have:=ZDT g hj;lia)).symm
     rw [this.1,this.2]
  ·
   have e:h.step yt lv s k=s:=by unfold Hs.step;rw [if_neg hB,if_neg hl]
   rw [e];obtain ⟨d,hd⟩:∃d,h.dir k=some d:=by
    cases hd:h.dir k with
    | some d=>exact ⟨d,rfl⟩
    | none=>exact absurd (Ik g hd) hl
   have hs:=ZEp hd;refine ⟨λi hi=> ?_,λi a hi ha=> ?_,λi hik hi hBi=> ?_,λi hi hBi hli=> ?_⟩
   ·show _=_ + (Bm k (h.c1 s.page i) + h.c1 s.page i k);rw [t.came i hi];unfold Hs.c1;simp [hd]
   ·show _=_ + (Bm k (h.o1 s.page i a) + h.o1 s.page i a k);rw [t.coming i a hi ha];unfold Hs.o1;simp [hs.2.1,ZEo hs.2.2.1]
   ·refine t.basin i ?_ hi hBi;rcases Nat.lt_or_ge i k with z | z
    ·exact z
    ·have e2:i=k:=by lia
     rw [e2,hB'] at hBi;cases hBi
   ·refine t.reach i hi hBi ?_;rcases Nat.lt_or_ge (h.last i) k with z | z
    ·exact z
    ·have e2:h.last i=k:=by lia
     have:=ZFY g h.n i (by lia);rw [e2] at this;exact absurd this hl
theorem ZH1 (g:GoodH h):∀(m k:Nat) (s:Cs),k + m=h.n->TI h yt lv co fl k s->TI h yt lv co fl h.n (h.goF yt lv m k s)
 | 0,k,s,e,t=>by
  have e1:k=h.n:=by lia
  rw [e1] at t;exact t
 | m + 1,k,s,e,t=>ZH1 g m (k + 1) _ (by lia) (ZSE g (by lia) t)
theorem ZNe (g:GoodH h) :TI h (at_ % h.yr) lv co fl h.n (h.cs lv co at_ fl):=by
 refine ZH1 g h.n 0 _ (by lia) ⟨λi hi=> ?_,λi a hi ha=> ?_,(λi hi=>absurd hi (by lia)),(λi _ _ hi=>absurd hi (by lia))⟩
 ·show fl i + co i 0=fl i + co i 0 + 0;lia
 ·show K3 co i a=K3 co i a + 0;lia
end
theorem ZFu:∀{m:Nat} {F:Nat->Int},Bm (m + 1) F=F 0 + Bm m λj=>F (j + 1)
 | 0,F=>by show (0:Int) + F 0=F 0 + 0;lia
 | m + 1,F=>by show Bm (m + 1) F + F (m + 1)=F 0 + (Bm m (λj=>F (j + 1)) + F (m + 1));rw [ZFu];lia
theorem ZHv:∀{n:Nat} {F:Nat->Int},Bm n F=((List.range n).map F).sum
 | 0,F=>rfl
 | n + 1,F=>by show Bm n F + F n=_;rw [List.range_succ,ZHv];simp
theorem sum_filter {p:Nat->Bool} :∀{l:List Nat},((l.filter p).map F).sum=(l.map λi=>if p i=true then F i else 0).sum
 | []=>rfl
 | a::l=>by
  rw [List.filter_cons];by_cases h:p a=true
  ·rw [if_pos h,List.map_cons,List.sum_cons,sum_filter];simp [h]
  ·rw [if_neg h,sum_filter];simp [h]
theorem ZF6:∀{l:List Nat},Bm l.length (λj=>F (l.getD j 0))=(l.map F).sum
 | []=>rfl
 | a::l=>by
  show Bm (l.length + 1) _=_;rw [ZFu,List.map_cons,List.sum_cons,<-ZF6]
  rfl
section
variable {h:Hs} {yt:Int} {lv:Nat->Int} {co:Nat->Nat->Int} {fl:Nat->Int}
theorem ZHb:(h.mem m).Nodup:=(O9 (h:=h) (m:=m)).imp λhab=>Nat.ne_of_lt hab
theorem ZIj (hi:i < ms.length):(h.rows ms ca)[i]? =some (h.row ms ca ms[i]):=by
 unfold Hs.rows;rw [List.getElem?_map,List.getElem?_eq_getElem hi]
 rfl
theorem R7 {q:Row->Int} (hk:k∈ms):col q (h.rows ms ca) (ms.idxOf k)=q (h.row ms ca k):=by have hl:=List.idxOf_lt_length_of_mem hk;unfold col;rw [ZIj hl,List.getElem_idxOf hl]
end
theorem ZJq {x:Int}:∀{n:Nat},Bm n (λk=>if d=k then x else 0)=if d < n then x else 0
 | 0=>rfl
 | n + 1=>by
  show Bm n _ + (if d=n then x else 0)=_;rw [ZJq];by_cases h:d=n
  ·rw [if_neg (show¬d < n by lia),if_pos h,if_pos (show d < n + 1 by lia)];lia
  ·rw [if_neg h];by_cases h2:d < n
   ·rw [if_pos h2,if_pos (show d < n + 1 by lia)];lia
   ·rw [if_neg h2,if_neg (show¬d < n + 1 by lia)];lia
theorem ZG4 {t:Int}:∀{r:List Ssn} {x:List Stp},held t r x=x∨∃s∈r,held t r x=s.2
 | [],x=>.inl rfl
 | s::r,x=>by
  show held t r (if s.1<=t then s.2 else x)=x∨_;rcases ZG4 (t:=t) (r:=r) (x:=if s.1<=t then s.2 else x) with z | ⟨s',hs,z⟩
  ·by_cases hc:s.1<=t
   ·rw [if_pos hc] at z;exact .inr ⟨s,by simp,by show held t r (if s.1<=t then s.2 else x)=_;rw [if_pos hc];exact z⟩
   ·rw [if_neg hc] at z;exact .inl (by rw [if_neg hc];exact z)
  ·exact .inr ⟨s',List.mem_cons_of_mem _ hs,z⟩
section
variable {h:Hs} {yt:Int} {lv:Nat->Int} {co:Nat->Nat->Int} {fl:Nat->Int}
end
theorem ZM0 {w':Int} (h:w<=w'):∀{st:List Stp} {t:Int},Good t st->rv w' st + pm w' st - (rv w st + pm w st)<=max w' t - max w t
 | [],t,_=>by show (0:Int) + 0 - (0 + 0)<=_;lia
 | s::st,t,hg=>by
  obtain ⟨h1,h2,h3⟩:=hg;have ih:=ZM0 h h3;have e:∀w,rv w (s::st) + pm w (s::st)=cub w s + (rv w st + pm w st):=λw=>by
   show (if s.r then cub w s else 0) + rv w st + ((if s.r then 0 else cub w s) + pm w st)=_
   split <;> lia
  rw [e,e];unfold cub;lia
theorem ZIe {w:Int}:∀{st:List Stp} {t:Int},Good t st->rv w st + pm w st<=max 0 (w - t)
 | [],t,_=>by show (0:Int) + 0<=_;lia
 | s::st,t,hg=>by
  obtain ⟨h1,h2,h3⟩:=hg;have ih:=ZIe (w:=w) h3;have e:rv w (s::st) + pm w (s::st)=cub w s + (rv w st + pm w st):=by
   show (if s.r then cub w s else 0) + rv w st + ((if s.r then 0 else cub w s) + pm w st)=_
   split <;> lia
  rw [e];unfold cub;lia
section
variable {h:Hs} {yt:Int} {lv lv':Nat->Int} {co co':Nat->Nat->Int} {fl fl':Nat->Int}
theorem ZSY (g:GoodH h) (hk:k < h.n) {b:Int} {r:List Ssn} (e:(h.pl k).kd=.basin b r q):Good 0 (held yt r []):=by
 rcases ZG4 (t:=yt) (r:=r) (x:= []) with z | ⟨s,hs,z⟩
 ·rw [z];trivial
 ·rw [z];exact (g.brim k b r q hk e).2 s hs
end
structure PageOk (h:Hs) (pg:Nat->List Int):Prop where
 row:∀k,k < h.n->∃a b c d e f,pg k= [a,b,c,d,e,f]/\0<=a/\0<=b/\0<=c/\0<=d/\0<=e/\0<=f
 brim:∀k b r q,k < h.n->(h.pl k).kd=.basin b r q->(pg k).getD 5 0<=b/\(0 < (pg k).getD 2 0->(pg k).getD 5 0=b)
 town:∀k a b,k < h.n->(h.pl k).kd=.town a b->(pg k).getD 1 0<=a
 idleB:∀k,k < h.n->(h.pl k).kd.isB=true->(pg k).getD 1 0=0
 idleR:∀k,k < h.n->(h.pl k).kd.isB=false->(pg k).getD 2 0=0/\(pg k).getD 4 0=0/\(pg k).getD 5 0=0
structure StOk (h:Hs) (lv:Nat->Int) (co:Nat->Nat->Int):Prop where
 lv0:∀k,k < h.n->0<=lv k
 lvR:∀k,k < h.n->(h.pl k).kd.isB=false->lv k=0
 co0:∀k a,k < h.n->a < 5->0<=co k a
section
variable {h:Hs} {yt:Int} {lv:Nat->Int} {co:Nat->Nat->Int} {fl:Nat->Int}
theorem ZMC (g:GoodH h) (t:TI h yt lv co fl h.n s) (nn:s.NN h.n) (h0:∀k,k < h.n->0<=lv k):PageOk h s.page:=by
 refine ⟨λk hk=> ?_,λk b r q hk e=> ?_,λk a b hk e=> ?_,λk hk hB=> ?_,λk hk hB=> ?_⟩
 ·cases hB:(h.pl k).kd.isB with
  | true=>
   rw [t.basin k hk hk hB];unfold Hs.brow;cases e:(h.pl k).kd with
   | basin b r q=>
    have a0:=h0 k hk;have a1:=nn.1 k hk;have a2:=ZDm (w:=lv k + s.came k) (st:=held yt r []);have a3:=ZCF (w:=lv k + s.came k) (st:=held yt r []);have a4:=ZIe (w:=lv k + s.came k) (ZSY (yt:=yt) g hk e);have a5:=(g.brim k b r q hk e).1;exact ⟨_,_,_,_,_,_,rfl,a1,Int.le_refl _,by lia,a2,a3,by lia⟩
   | town _ _=>rw [e] at hB;cases hB
   | mill _=>rw [e] at hB;cases hB
  | false=>
   have hl:=(Hy g k).2 hk;rw [t.reach k hk hB hl];have hR:=Nm g (m:=h.last k) nn.1;have hm:k∈h.mem (h.last k):=mem_iff.mpr ⟨hk,rfl⟩;have hsi:=Rp hR;have t0:0<=h.K8 s.came (h.last k) ((h.mem (h.last k)).idxOf k):=hsi.t0 _;have l0:0<=h.Ja s.came (h.last k) ((h.mem (h.last k)).idxOf k):=by have:=hsi.p0 ((h.mem (h.last k)).idxOf k) (by rw [Ji];exact List.idxOf_lt_length_of_mem hm);rw [hsi.pg] at this;exact this
   exact ⟨_,_,_,_,_,_,rfl,by lia,t0,Int.le_refl _,l0,Int.le_refl _,Int.le_refl _⟩
 ·have hB:(h.pl k).kd.isB=true:=by rw [e];rfl
  rw [t.basin k hk hk hB];unfold Hs.brow;rw [e];simp only [List.getD_cons_succ,List.getD_cons_zero];lia
 ·have hB:(h.pl k).kd.isB=false:=by rw [e];rfl
  have hl:=(Hy g k).2 hk;rw [t.reach k hk hB hl];have hR:=Nm g (m:=h.last k) nn.1;have hm:k∈h.mem (h.last k):=mem_iff.mpr ⟨hk,rfl⟩;have hn:=(Rp hR).tn ((h.mem (h.last k)).idxOf k);rw [R7 hm] at hn;have e2:(h.row (h.mem (h.last k)) s.came k).need=a:=by show h.need k=a;unfold Hs.need;rw [e]
  rw [e2] at hn;exact hn
 ·rw [t.basin k hk hk hB];unfold Hs.brow
  cases e:(h.pl k).kd <;> rfl
 ·have hl:=(Hy g k).2 hk;rw [t.reach k hk hB hl];exact ⟨rfl,rfl,rfl⟩
end
theorem ZPW:gat rs m k (λ_=>0)=λ_=>0:=by have:=Rw (rs:=rs) m k (λ_=>0) (λ_=>0);simp only [Int.sub_self] at this;exact this
noncomputable def Ek (X:Nat->Int) (m:Nat):Nat->Int:=λi=>if i < m then X i else 0
theorem ZI5 (hR:Reach rs) (X:Nat->Int):∀m,m<=rs.length->∀i,gath rs (Ek X m) i=Bm m λj=>if i∈way rs j then X j else 0
 | 0,_,i=>by
  have e:Ek X 0=λ_=>0:=by funext i;simp [Ek]
  rw [e];show gat rs rs.length 0 (λ_=>0) i=0;rw [ZPW]
 | m + 1,hm,i=>by
  have ih:=ZI5 hR X m (by lia) i;have e:Ek X (m + 1)=λi=>Ek X m i + ind (X m) [m] i:=by
   funext i;unfold Ek ind;by_cases h1:i < m
   ·have h2:¬i=m:=by lia
    simp [h1,h2,show i < m + 1 by lia]
   ·by_cases h2:i=m
    ·subst h2;simp
    ·simp [h1,h2,show¬i < m + 1 by lia]
  rw [e];show gat rs rs.length 0 (λi=>Ek X m i + ind (X m) [m] i) i=_;rw [Vj hR rs.length 0 m (Ek X m) (by lia) (by lia) (by lia)];show gath rs (Ek X m) i + ind (X m) (way rs m) i=Bm m _ + _;rw [ih]
  rfl
theorem ZRF (hR:Reach rs) (hX:∀j,¬j < rs.length->X j=0) (i:Nat):gath rs X i=Bm rs.length λj=>if i∈way rs j then X j else 0:=by
 have e:Ek X rs.length=X:=by
  funext j;unfold Ek;by_cases h:j < rs.length
  ·rw [if_pos h]
  ·rw [if_neg h,hX j h]
 have:=ZI5 hR X rs.length (Nat.le_refl _) i;rwa [e] at this
noncomputable def Hs.Mg (h:Hs):Nat->Nat->List Nat
 | 0,k=> [k]
 | m + 1,k=>k::(match h.dir k with
  | none=> []
  | some d=>h.Mg m d)
noncomputable def Hs.chain (h:Hs) (k:Nat):List Nat:=h.Mg h.n k
noncomputable def Hs.J7 (h:Hs):Option Nat->List Nat
 | none=> []
 | some d=>h.chain d
section
variable {h:Hs}
theorem ZGT (g:GoodH h):∀(m m' k:Nat),h.n<=m + k + 1->h.n<=m' + k + 1->h.Mg m k=h.Mg m' k
 | 0,m',k,e,e'=>by
  have hn:h.dir k=none:=by
   cases hd:h.dir k with
   | none=>rfl
   | some d=>have:=Gx g hd;lia
  cases m' with
  | zero=>rfl
  | succ m'=>simp [Hs.Mg,hn]
 | m + 1,0,k,e,e'=>by
  have hn:h.dir k=none:=by
   cases hd:h.dir k with
   | none=>rfl
   | some d=>have:=Gx g hd;lia
  simp [Hs.Mg,hn]
 | m + 1,m' + 1,k,e,e'=>by
  cases hd:h.dir k with
  | none=>simp [Hs.Mg,hd]
  | some d=>
   have:=Gx g hd;simp [Hs.Mg,hd,ZGT g m m' d (by lia) (by lia)]
theorem Ld (g:GoodH h) (k:Nat):h.chain k=k::h.J7 (h.dir k):=by
 unfold Hs.chain;rw [ZGT g h.n (h.n + 1) k (by lia) (by lia)];show k::_=_;cases hd:h.dir k with
 | none=>rfl
 | some d=>rfl
theorem ZB7 (g:GoodH h) (k:Nat):k∈h.chain k:=by rw [Ld g];exact List.mem_cons_self
theorem ZGk (g:GoodH h):∀(m k:Nat),h.n<=m + k->∀b∈h.chain k,k<=b/\h.last b=h.last k/\(b≠k->∃d,h.dir k=some d/\b∈h.chain d)
 | 0,k,e,b,hb=>by rw [Ld g,My (by lia)] at hb;simp only [Hs.J7,List.mem_cons,List.not_mem_nil,or_false] at hb;subst hb;exact ⟨Nat.le_refl _,rfl,λz=>absurd rfl z⟩
 | m + 1,k,e,b,hb=>by
  rw [Ld g] at hb;rcases List.mem_cons.mp hb with rfl | hb
  ·exact ⟨Nat.le_refl _,rfl,λz=>absurd rfl z⟩
  ·cases hd:h.dir k with
   | none=>rw [hd] at hb;cases hb
   | some d=>
    rw [hd] at hb;have hl:=Gx g hd;have ih:=ZGk g m d (by lia) b hb;exact ⟨by lia,by rw [ih.2.1,Kv g hd],λ_=>⟨d,rfl,hb⟩⟩
theorem Nk (g:GoodH h) (hb:b∈h.chain k):k<=b/\h.last b=h.last k/\(b≠k->∃d,h.dir k=some d/\b∈h.chain d):=ZGk g h.n k (by lia) b hb
theorem ZQq (ha:a∈ms) (hb:b∈ms) (e:ms.idxOf a=ms.idxOf b):a=b:=by have l1:=List.idxOf_lt_length_of_mem ha;have l2:=List.idxOf_lt_length_of_mem hb;rw [<-List.getElem_idxOf l1,<-List.getElem_idxOf l2];simp only [e]
theorem ZLs (hk:k∈h.mem m):Bw (h.rows (h.mem m) ca) ((h.mem m).idxOf k)=(h.dir k).map λd=>(h.mem m).idxOf d:=by
 have hi:=List.idxOf_lt_length_of_mem hk;unfold Bw;rw [ZIj hi,List.getElem_idxOf hi]
 rfl
theorem ZEu (g:GoodH h) {m:Nat} (hc:∀k,k < h.n->0<=ca k):∀(q k:Nat),h.n<=q + k->k∈h.mem m->way (h.rows (h.mem m) ca) ((h.mem m).idxOf k)=(h.chain k).map λd=>(h.mem m).idxOf d
 | 0,k,e,hk=>absurd (mem_iff.mp hk).1 (by lia)
 | q + 1,k,e,hk=>by
  have hR:=Nm g (m:=m) hc;rw [J8 hR,ZLs hk,Ld g,List.map_cons]
  congr 1
  cases hd:h.dir k with
  | none=>rfl
  | some d=>
   have hl:=Gx g hd;have hdm:d∈h.mem m:=mem_iff.mpr ⟨hl.2.1,by rw [<-Kv g hd];exact (mem_iff.mp hk).2⟩;exact ZEu g hc q d (by lia) hdm
theorem ZSd (g:GoodH h) (hc:∀k,k < h.n->0<=ca k) (hp:p∈h.mem m) (hX:∀j,¬j < (h.mem m).length->X j=0):gath (h.rows (h.mem m) ca) X ((h.mem m).idxOf p)=Bm h.n λj=>if p∈h.chain j then X ((h.mem m).idxOf j) else 0:=by
 have hR:=Nm g (m:=m) hc;rw [ZRF hR (λj hj=>hX j (by rwa [Ji] at hj)),Ji];have e3:Bm (h.mem m).length (λj=>if (h.mem m).idxOf p∈way (h.rows (h.mem m) ca) j then X j else 0)=Bm (h.mem m).length λj=>(λi=>if p∈h.chain i then X ((h.mem m).idxOf i) else 0) ((h.mem m).getD j 0):=O5 λj hj=>by
  have e4:(h.mem m).getD j 0=(h.mem m)[j]:=by simp [List.getD_eq_getElem?_getD,List.getElem?_eq_getElem hj]
  show _=(if p∈h.chain ((h.mem m).getD j 0) then _ else _);rw [e4,Xj ZHb hj];have hjm:(h.mem m)[j]∈h.mem m:=List.getElem_mem hj;have hw:=ZEu g hc h.n (h.mem m)[j] (by lia) hjm;rw [Xj ZHb hj] at hw;rw [hw];by_cases hin:p∈h.chain (h.mem m)[j]
  ·rw [if_pos hin,if_pos (List.mem_map.mpr ⟨p,hin,rfl⟩)]
  ·rw [if_neg hin,if_neg];intro z;obtain ⟨b,hb,eb⟩:=List.mem_map.mp z;have hbm:b∈h.mem m:=by have h1:=Nk g hb;have h2:=mem_iff.mp hjm;have h3:=(Hy g b).1;refine mem_iff.mpr ⟨?_,by lia⟩;have:=(Hy g (h.mem m)[j]).2 h2.1;lia
   have:=ZQq hbm hp eb;subst this;exact hin hb
 have e5:=ZF6 (F:=λi=>if p∈h.chain i then X ((h.mem m).idxOf i) else 0) (l:=h.mem m);rw [e3,e5,ZHv];have e6:((h.mem m).map λi=>if p∈h.chain i then X ((h.mem m).idxOf i) else 0).sum=((List.range h.n).map λi=>if decide (h.last i=m)=true then (if p∈h.chain i then X ((h.mem m).idxOf i) else 0) else 0).sum:=sum_filter (p:=λk=>decide (h.last k=m)) (l:=List.range h.n);rw [e6]
 congr 1
 refine List.map_congr_left λi hi=> ?_
 by_cases hd:p∈h.chain i
 ·have h1:=(mem_iff.mp hp).2;have h2:=(Nk g hd).2.1;rw [if_pos (by simp;lia)]
 ·simp [hd]
noncomputable def Hs.ahead (h:Hs) (j k:Nat):Bool:=(h.pl j).kd.isT && decide (h.rank j < h.rank k∨(h.rank j=h.rank k/\j < k))
theorem ZSJ (ha:a∈h.mem m) (hb:b∈h.mem m):((h.mem m).idxOf a < (h.mem m).idxOf b)↔a < b:=by
 have l1:=List.idxOf_lt_length_of_mem ha;have l2:=List.idxOf_lt_length_of_mem hb;constructor
 ·intro z;have:=List.pairwise_iff_getElem.mp (O9 (h:=h) (m:=m)) _ _ l1 l2 z;rwa [List.getElem_idxOf l1,List.getElem_idxOf l2] at this
 ·intro z;refine ZIf O9 l1 l2 ?_;rwa [List.getElem_idxOf l1,List.getElem_idxOf l2]
theorem ZQZ (ha:a∈h.mem m) (hb:b∈h.mem m):ltK (h.rows (h.mem m) ca) ((h.mem m).idxOf a) ((h.mem m).idxOf b)=decide (h.rank a < h.rank b∨(h.rank a=h.rank b/\a < b)):=by unfold ltK;rw [R7 ha,R7 hb];refine decide_eq_decide.mpr ?_;show (h.rank a < h.rank b∨(h.rank a=h.rank b/\(h.mem m).idxOf a < (h.mem m).idxOf b))↔_;rw [ZSJ ha hb]
theorem ZFd (hT:(h.pl k).kd.isT=false):h.need k=0:=by
 unfold Hs.need;cases e:(h.pl k).kd with
 | town a b=>rw [e] at hT;cases hT
 | basin _ _ _=>rfl
 | mill _=>rfl
variable {yt:Int} {lv:Nat->Int} {co:Nat->Nat->Int} {fl:Nat->Int}
noncomputable def tk (pg:Nat->List Int) (k:Nat):Int:=(pg k).getD 1 0
noncomputable def Hs.Jt (h:Hs) (pg:Nat->List Int) (k p:Nat):Int:=Bm h.n λj=>if p∈h.chain j then (pg j).getD 0 0 - (if j≠p then (pg j).getD 3 0 else 0) - (if h.ahead j k=true then tk pg j else 0) else 0
theorem ZJr (v a:Int):∀(l:List Int),l.foldl min (min v a)=min v (l.foldl min a)
 | []=>rfl
 | x::l=>by show l.foldl min (min (min v a) x)=min v (l.foldl min (min a x));rw [Int.min_assoc,ZJr]
theorem ZRx (g:GoodH h) (t:TI h yt lv co fl h.n s) (nn:s.NN h.n) (hk:k < h.n) (hB:(h.pl k).kd.isB=false):tk s.page k=((h.chain k).map (h.Jt s.page k)).foldl min (h.need k):=by
 have hlk:=(Hy g k).2 hk;have hkm:k∈h.mem (h.last k):=mem_iff.mpr ⟨hk,rfl⟩;generalize hm:h.last k=m at hlk hkm;have hR:=Nm g (m:=m) nn.1;have hil:=List.idxOf_lt_length_of_mem hkm;obtain ⟨pre,post,P,T,_,_,hsi,hT,hsh,_,_⟩:=ZRe hR (k:=(h.mem m).idxOf k) (by rw [Ji];exact hil);have hpg:∀j,j∈h.mem m->s.page j=rrow (h.K8 s.came m) (h.Ja s.came m) ((h.mem m).idxOf j):=λj hj=>by
  have h1:=mem_iff.mp hj;have hjB:(h.pl j).kd.isB=false:=by
   cases z:(h.pl j).kd.isB with
   | false=>rfl
   | true=>
    have h2:=Ik g (ZBb z);have h3:=Xa g h.n k (by lia);rw [hm] at h3;have ej:j=m:=by lia
    rcases h3 with h3 | h3
    ·rw [ej,h3,hB] at z;cases z
    ·rw [<-ej,z] at h3;cases h3
  have:=t.reach j h1.1 hjB (by lia);rw [h1.2] at this;exact this
 have htk:tk s.page k=shr (h.rows (h.mem m) s.came) ((h.mem m).idxOf k):=by unfold tk;rw [hpg k hkm];rfl
 have hP:∀p∈h.chain k,P ((h.mem m).idxOf p)=h.Jt s.page k p:=λp hp=>by
  have hc:=Nk g hp;have hpm:p∈h.mem m:=by have h3:=(Hy g p).1;refine mem_iff.mpr ⟨by lia,by lia⟩
  have ho:∀j,¬j < (h.mem m).length->shr (h.rows (h.mem m) s.came) j=0:=λj hj=>ZRB (by rw [Ji];exact hj)
  have hwo:∀j,¬j < (h.mem m).length->col Row.water (h.rows (h.mem m) s.came) j=0:=λj hj=>by unfold col;rw [List.getElem?_eq_none (by rw [Ji];lia)]
  have e1:P ((h.mem m).idxOf p)=h.Ja s.came m ((h.mem m).idxOf p) + gath (h.rows (h.mem m) s.came) (λj=>shr (h.rows (h.mem m) s.came) j - T j) ((h.mem m).idxOf p):=by rw [hsi.pg];show gat _ _ _ (λi=>col Row.water (h.rows (h.mem m) s.came) i - T i) _=gat _ _ _ (λi=>col Row.water (h.rows (h.mem m) s.came) i - shr (h.rows (h.mem m) s.came) i) _ + gat _ _ _ (λj=>shr (h.rows (h.mem m) s.came) j - T j) _;rw [Rw,Rw,Rw];show gat _ _ _ _ _ - gat _ _ _ _ _=(gat _ _ _ _ _ - gat _ _ _ _ _) + (gat _ _ _ _ _ - gat _ _ _ _ _);lia
  rw [e1,ZSd g nn.1 hpm (λj hj=>by rw [ho j hj,hT];simp [ho j hj])];have hpn:=(mem_iff.mp hpm).1;have e2:h.Ja s.came m ((h.mem m).idxOf p)=Bm h.n λj=>if p=j then h.Ja s.came m ((h.mem m).idxOf p) else 0:=by rw [ZJq,if_pos hpn]
  rw [e2,<-ZJf];refine O5 λj hj=> ?_
  by_cases hin:p∈h.chain j
  ·have hjm:j∈h.mem m:=mem_iff.mpr ⟨hj,by rw [<-(Nk g hin).2.1];exact (mem_iff.mp hpm).2⟩;rw [if_pos hin,if_pos hin,hT];simp only;rw [ZQZ hjm hkm];have hpj:=hpg j hjm;have w1:(s.page j).getD 0 0=shr (h.rows (h.mem m) s.came) ((h.mem m).idxOf j) + h.Ja s.came m ((h.mem m).idxOf j):=by rw [hpj];rfl
   have w3:(s.page j).getD 3 0=h.Ja s.came m ((h.mem m).idxOf j):=by rw [hpj];rfl
   have wt:tk s.page j=shr (h.rows (h.mem m) s.came) ((h.mem m).idxOf j):=by unfold tk;rw [hpj];rfl
   rw [w1,w3,wt];have ha:(if h.ahead j k=true then shr (h.rows (h.mem m) s.came) ((h.mem m).idxOf j) else 0)=if decide (h.rank j < h.rank k∨(h.rank j=h.rank k/\j < k))=true then shr (h.rows (h.mem m) s.came) ((h.mem m).idxOf j) else 0:=by
    unfold Hs.ahead;cases hTn:(h.pl j).kd.isT with
    | true=>simp
    | false=>
     have h0:=(Rp hR).tn ((h.mem m).idxOf j);have h1:=(Rp hR).t0 ((h.mem m).idxOf j);rw [R7 hjm] at h0;have h2:(h.row (h.mem m) s.came j).need=0:=ZFd hTn;have h3:shr (h.rows (h.mem m) s.came) ((h.mem m).idxOf j)=0:=by lia
     rw [h3];simp
   rw [ha];by_cases ej:j=p
   ·subst ej;simp;lia
   ·rw [if_neg (λz=>ej z.symm),if_pos ej];lia
  ·rw [if_neg hin,if_neg hin,if_neg (λz=>hin (by rw [z];exact ZB7 g j))]
   rfl
 rw [htk,hsh];unfold take1;rw [R7 hkm,ZEu g nn.1 h.n k (by lia) hkm];show min (h.need k) _=_;rw [Ld g] at hP ⊢;rw [List.map_cons,List.map_cons];show min (h.need k) ((((h.J7 (h.dir k)).map λd=>(h.mem m).idxOf d).map P).foldl min (P ((h.mem m).idxOf k)))=((h.J7 (h.dir k)).map (h.Jt s.page k)).foldl min (min (h.need k) (h.Jt s.page k k));rw [ZJr,hP k List.mem_cons_self,List.map_map]
 congr 2
 exact List.map_congr_left λp hp=>hP p (List.mem_cons_of_mem _ hp)
end
theorem ZL3 {x:Int} (hx:0<=x) (G:DH):Uk [.int x] G=.ok (.bl true) G:=by unfold Uk Zx;rw [Be];simp [hx,Bd]
theorem ZNC (h:∀x∈xs,0<=x) (G:DH):Eb (gV 0) Ci (dFn Uk (Ab (dV 0) Ae)) [none] (xs.map D.int) G=.ok ((xs.map λ_=>true).map D.bl) G:=by rw [List.map_map];exact Ti (E:=D.int) (F:=λ_=>.bl true) λx hx=>by simp [ZL3 (h x hx)]
theorem ZLu (G:DH):freeze G (.ok (.ref G.length) (G++ [.lst ((xs.map λ_=>true).map D.bl)]))=.ok (.fl ((xs.map λ_=>true).map D.bl)) G:=Gn (Gm λ_ _=>rfl)
theorem ZP2:(xs.map λ_=>true).all id=true:=by simp
theorem ZI6 {x y:Option D} {G:DH}:∀(rows:List (List Int)) (z:Option D),(∀r∈rows,r.length=6/\∀v∈r,0<=v)->∃z',Bg (gV 2) ZAK (rows.map λr=>.tup (r.map D.int)) [x,y,z] G=.nx [x,y,z'] G
 | [],z,_=>⟨z,by rw [List.map_nil,Ec]⟩
 | r::rows,z,h=>by
  obtain ⟨z',ih⟩:=ZI6 (x:=x) (y:=y) (G:=G) rows (some (.tup (r.map D.int))) λr' hr'=>h r' (List.mem_cons_of_mem _ hr')
  refine ⟨z',?_⟩;obtain ⟨h6,h0⟩:=h r (by simp);have hb:ZAK [x,y,some (.tup (r.map D.int))] G=.nx [x,y,some (.tup (r.map D.int))] G:=by
   have hw:=ZNC h0 G;have hz:=ZLu (xs:=r) G;have hal:=ZP2 (xs:=r);have ea:=ZKd (ks:=r.map λ_=>true) (G:=G);rw [hal] at ea;have hts:((r.map λ_=>true).map D.bl).length<=1000000:=by simp [h6]
   generalize (r.map λ_=>true).map D.bl=ts at hw hz ea hts;unfold ZAK ZIt;simp [hts,h6,Bf,hw,hz,ea]
  rw [List.map_cons,Dk];simp only [Do,R.Dj,List.set,hb,Dt];exact ih
theorem ZLX (p:PageOk h pg):Cm h.n pg=((List.range h.n).map pg).map λr=>.tup (r.map D.int):=by
 unfold Cm;rw [List.map_map];refine List.map_congr_left λk hk=> ?_
 obtain ⟨a,b,c,d,e,f,e1,_⟩:=p.row k (List.mem_range.mp hk);show Je (pg k)=_;rw [e1];simp [Je,e1]
theorem ZSZ (p:PageOk h pg) (G:DH):Y5 [pgD h.n pg,.int h.n] G=.ok (.bl true) G:=by
 obtain ⟨z',hL⟩:=ZI6 (x:=some (pgD h.n pg)) (y:=some (.int h.n)) (G:=G) ((List.range h.n).map pg) none λr hr=>by
  obtain ⟨k,hk,rfl⟩:=List.mem_map.mp hr;obtain ⟨a,b,c,d,e,f,e1,h1,h2,h3,h4,h5,h6⟩:=p.row k (List.mem_range.mp hk);rw [e1];refine ⟨rfl,λv hv=> ?_⟩;simp only [List.mem_cons,List.not_mem_nil,or_false] at hv
  rcases hv with rfl | rfl | rfl | rfl | rfl | rfl <;> assumption
 rw [<-ZLX p] at hL;have hlen:(Cm h.n pg).length=h.n:=ZDn;unfold pgD at hL ⊢;generalize Cm h.n pg=L at hL hlen;unfold Y5 ZA9;rw [Be];simp [hlen,hL,Bd]
theorem ZGv {n:Nat} (hk:k < n) {a b d e f:Int} (e1:pg k= [a,b,c,d,e,f]):atI (Cm n pg) (k:Int)=some (.tup [.int a,.int b,.int c,.int d,.int e,.int f]):=Ex rfl (by unfold Cm;rw [List.getElem?_map,List.getElem?_range hk];simp [Je,e1])
theorem ZFr (g:GoodH h) (hk:k < h.n) (hd:h.dn k=none) {G:DH}:∀(m j:Nat) (x:Option D),j + m=h.n->∃x',Bg (gV 2) Iz (Cg j m) [some h.enc,some (.int k),x] G=.nx [some h.enc,some (.int k),x'] G
 | 0,j,x,e=>⟨x,by rw [Ob,Ec]⟩
 | m + 1,j,x,e=>by
  have hj:j < h.n:=by lia
  obtain ⟨x',ih⟩:=ZFr g hk hd (G:=G) m (j + 1) (some (.int j)) (by lia);refine ⟨x',?_⟩;have a1:atI h.Ce (k:Int)=some (h.encP (h.pl k)):=Hs.Dr hk;have a2:atI h.Ce (j:Int)=some (h.encP (h.pl j)):=Hs.Dr hj;have hd':(h.pl k).dn=none:=hd;have hb:Iz [some h.enc,some (.int k),some (.int j)] G=.nx [some h.enc,some (.int k),some (.int j)] G:=by unfold Iz;simp [By,a1,a2,hd',Hs.dnT,g.sea j hj]
  rw [Kp,Dk];simp only [Do,R.Dj,List.set,hb,Dt];have e2:((j:Int) + 1)=((j + 1:Nat):Int):=by lia
  rw [e2,ih]
theorem ZHp (g:GoodH h) (hk:k < h.n) (hd:h.dn k=some d) (hdn:d < h.n) :∀(m j:Nat) (x:Option D),j + m=h.n->j<=d->Bg (gV 2) Iz (Cg j m) [some h.enc,some (.int k),x] G=.rt (.int d) G
 | 0,j,x,e,hj=>absurd hj (by lia)
 | m + 1,j,x,e,hjd=>by
  have hj:j < h.n:=by lia
  have a1:atI h.Ce (k:Int)=some (h.encP (h.pl k)):=Hs.Dr hk;have a2:atI h.Ce (j:Int)=some (h.encP (h.pl j)):=Hs.Dr hj;have hd':(h.pl k).dn=some d:=hd;rw [Kp,Dk];by_cases ej:j=d
  ·subst ej;have hb:Iz [some h.enc,some (.int k),some (.int j)] G=.rt (.int j) G:=by unfold Iz;simp [By,a1,a2,hd',Hs.dnT]
   simp only [Do,R.Dj,List.set,hb,ZNR]
  ·have hne:¬(h.pl j).nm=(h.pl d).nm:=λz=>ej (g.inj j d hj hdn z)
   have hb:Iz [some h.enc,some (.int k),some (.int j)] G=.nx [some h.enc,some (.int k),some (.int j)] G:=by unfold Iz;simp [By,a1,a2,hd',Hs.dnT,hne]
   simp only [Do,R.Dj,List.set,hb,Dt];have e2:((j:Int) + 1)=((j + 1:Nat):Int):=by lia
   rw [e2];exact ZHp g hk hd hdn m (j + 1) _ (by lia) (by lia)
theorem Vw (g:GoodH h) (hk:k < h.n) (G:DH):Ry [h.enc,.int k] G=.ok (dnD (h.dn k)) G:=by
 have hr:inR (h.n:Int):=Gr (by lia) (by have:=g.len;lia);cases hd:h.dn k with
 | none=>
  obtain ⟨x',hL⟩:=ZFr g hk hd (G:=G) h.n 0 none (by lia);have hL':Bg (gV 2) Iz (Cg 0 h.n) _ _=_:=hL;unfold Ry Ro;rw [Be];simp [By,Hs.K5,hr,hL',dnD,Bd]
 | some d=>
  have hL:=ZHp g hk hd (g.dn k d hk hd).2 (G:=G) h.n 0 none (by lia) (by lia);have hL':Bg (gV 2) Iz (Cg 0 h.n) _ _=_:=hL;unfold Ry Ro;rw [Be];simp [By,Hs.K5,hr,hL',dnD,Bd]
theorem ZDY (g:GoodH h) (hk:k < h.n) (hB:(h.pl k).kd.isB=false) (G:DH):R9 [h.enc,.int k] G=.ok (dnD (h.dir k)) G:=by
 have a1:atI h.Ce (k:Int)=some (h.encP (h.pl k)):=Hs.Dr hk;unfold R9 T3;rw [Be];cases hd:h.dn k with
 | none=>
  have e:h.dir k=none:=by unfold Hs.dir;rw [hd]
  simp [Vw g hk,hd,e,dnD,Bd]
 | some d=>
  have hl:=g.dn k d hk hd;have a2:atI h.Ce (d:Int)=some (h.encP (h.pl d)):=Hs.Dr hl.2;by_cases h1:0 < (h.pl k).dl
  ·have e:h.dir k=none:=by unfold Hs.dir;rw [hd];simp [h1]
   simp [Vw g hk,hd,e,dnD,Bd,By,a1,h1]
  ·cases h2:(h.pl d).kd.isB with
   | true=>
    have e:h.dir k=none:=by unfold Hs.dir;rw [hd];simp [h2]
    simp [Vw g hk,hd,e,dnD,Bd,By,a1,a2,h1,G7,h2]
   | false=>
    have e:h.dir k=some d:=by unfold Hs.dir;rw [hd];simp [h1,h2,hB]
    simp [Vw g hk,hd,e,dnD,Bd,By,a1,a2,h1,G7,h2]
noncomputable def inO (o:Option Nat) (l:List Nat):Bool:=match o with
 | none=>false
 | some d=>decide (d∈l)
theorem ZFD:∀l:List Nat,Iv (Aq l)=some (l.map λ(i:Nat)=>V.int (i:Int))
 | []=>rfl
 | a::l=>by
  show (match Nb (.int (a:Int)),Iv (Aq l) with | some v,some vs=>some (v::vs) | _,_=>none)=_
  rw [ZFD l]
  rfl
theorem ZJG:∀l:List Nat,inV .non (l.map λ(i:Nat)=>V.int (i:Int))=false
 | []=>rfl
 | a::l=>by
  show (eqV (.int (a:Int)) .non || inV .non (l.map λ(i:Nat)=>V.int (i:Int)))=false;rw [ZJG l]
  rfl
theorem ZGa (d:Nat):∀l:List Nat,inV (.int (d:Int)) (l.map λ(i:Nat)=>V.int (i:Int))=decide (d∈l)
 | []=>by simp [inV]
 | a::l=>by
  show (eqV (.int (a:Int)) (.int (d:Int)) || inV (.int (d:Int)) (l.map λ(i:Nat)=>V.int (i:Int)))=_;rw [ZGa d l];show (((a:Int) == (d:Int)) || decide (d∈l))=_;by_cases e:a=d
  ·subst e;simp
  ·have e2:¬d=a:=λz=>e z.symm
   have e3:¬((a:Int)=(d:Int)):=by lia
   simp [e2,e3]
theorem ZLS {o:Option Nat} (h:G[i]? =some (.lst (Aq l))):Tr (dnD o) (.ref i) G=.ok (.bl (inO o l)) G:=by
 have hs:Bs (.ref i) G=some (Aq l):=by simp [h]
 have key:inD (dnD o) (.ref i) G=some (inO o l):=by
  cases o with
  | none=>
   show (match Bs (.ref i) G,Nb .non with | some xs,some v=>(Iv xs).map λvs=>inV v vs | _,_=>none)=_
   rw [hs];show (Iv (Aq l)).map (λvs=>inV .non vs)=some false;rw [ZFD];show some (inV _ _)=_;rw [ZJG]
  | some d=>
   show (match Bs (.ref i) G,Nb (.int (d:Int)) with | some xs,some v=>(Iv xs).map λvs=>inV v vs | _,_=>none)=_
   rw [hs];show (Iv (Aq l)).map (λvs=>inV (.int (d:Int)) vs)=some (decide (d∈l));rw [ZFD];show some (inV _ _)=_;rw [ZGa]
 unfold Tr;rw [key]
noncomputable def Hs.Jw (h:Hs):Nat->List Nat->List Nat
 | 0,l=>l
 | k + 1,l=>h.Jw k (if inO (h.dir k) l=true then l++ [k] else l)
noncomputable def Hs.above (h:Hs) (p:Nat):List Nat:=h.Jw p [p]
theorem ZGI (g:GoodH h) {p:D} {G:DH}:∀(j:Nat) (l:List Nat) (x:Option D),j<=h.n->l.length + j<=100->∃x',
  Bg (gV 3) S6 (Iw ((j:Int) - 1) j) [some h.enc,some p,some (.ref G.length),x] (G++ [.lst (Aq l)])=.nx [some h.enc,some p,some (.ref G.length),x'] (G++ [.lst (Aq (h.Jw j l))])
 | 0,l,x,e,hl=>⟨x,by rw [ZJc,Ec];rfl⟩
 | j + 1,l,x,e,hl=>by
  have hj:j < h.n:=by lia
  obtain ⟨x',ih⟩:=ZGI g (p:=p) (G:=G) j (if inO (h.dir j) l=true then l++ [j] else l) (some (.int j)) (by lia) (by by_cases hc:inO (h.dir j) l=true <;> simp [hc] <;> lia)
  refine ⟨x',?_⟩;have e1:(((j + 1:Nat):Int) - 1)=j:=by lia
  have a1:atI h.Ce (j:Int)=some (h.encP (h.pl j)):=Hs.Dr hj;have hin:=ZLS (o:=h.dir j) (l:=l) (i:=G.length) (G:=G++ [.lst (Aq l)]) (by simp);have hal:l.length < 1000000:=by lia
  have ea:Aq l++ [.int (j:Int)]=Aq (l++ [j]):=by simp [Aq]
  have hb:S6 [some h.enc,some p,some (.ref G.length),some (.int j)] (G++ [.lst (Aq l)])=.nx [some h.enc,some p,some (.ref G.length),some (.int j)] (G++ [.lst (Aq (if inO (h.dir j) l=true then l++ [j] else l))]):=by
   unfold S6;cases hB:(h.pl j).kd.isB with
   | true=>
    have e2:inO (h.dir j) l=false:=by rw [ZBb hB];rfl
    simp [By,a1,G7,hB,e2]
   | false=>
    cases h2:inO (h.dir j) l with
    | true=>simp [By,a1,G7,hB,ZDY g hj hB,hin,h2,Di,Eg,hal,ea]
    | false=>simp [By,a1,G7,hB,ZDY g hj hB,hin,h2]
  rw [e1,ZFt,Dk];simp only [Do,R.Dj,List.set,hb,Dt];exact ih
theorem ZQb (g:GoodH h) (hp:p < h.n) (G:DH):ZBx [h.enc,.int p] G=.ok (.ref G.length) (G++ [.lst (Aq (h.above p))]):=by
 have hn:=g.len;obtain ⟨x',hL⟩:=ZGI g (p:=.int p) (G:=G) p [p] none (by lia) (by simp;lia);have hL':Bg (gV 3) S6 (Iw ((p:Int) - 1) p) [some h.enc,some (.int p),some (.ref G.length),none] (G++ [.lst [.int (p:Int)]])=.nx [some h.enc,some (.int p),some (.ref G.length),x'] (G++ [.lst (Aq (h.above p))]):=hL;have t0:tidy G (.ok (.ref G.length) (G++ [.lst [.int (p:Int)]]))=.ok (.ref G.length) (G++ [.lst [.int (p:Int)]]):=Es rfl
 have q1:inR ((p:Int) - 1):=Gr (by lia) (by lia);have q2:inR (-1):=Gr (by lia) (by lia);have e2:((p:Int) - 1 - -1).toNat=p:=by lia
 have e3:((p:Int) - 1 + 1).toNat=p:=by lia
 unfold ZBx ZAg;rw [Be];simp [Ao,t0,q1,q2,ZIY,e2,e3,hL',Es]
theorem ZBh (g:GoodH h) {p:Nat} (F:Nat->Int):∀(k:Nat) (l:List Nat),k<=p->(∀j,k<=j->(j∈l↔p∈h.chain j))->(∀j∈l,k<=j)->((h.Jw k l).map F).sum=(l.map F).sum + Bm k (λj=>if p∈h.chain j then F j else 0)/\∀j,j∈h.Jw k l↔p∈h.chain j
 | 0,l,hk,hl,h0=>⟨by show (l.map F).sum=(l.map F).sum + 0;lia,λj=>hl j (by lia)⟩
 | k + 1,l,hk,hl,h0=>by
  have hin:inO (h.dir k) l=true↔p∈h.chain k:=by
   cases hd:h.dir k with
   | none=>
    rw [Ld g,hd];simp only [inO,Hs.J7,List.mem_cons,List.not_mem_nil,or_false];constructor
    ·intro z;cases z
    ·intro z;lia
   | some d=>
    have hlt:=Gx g hd;rw [Ld g,hd];simp only [inO,Hs.J7,List.mem_cons,decide_eq_true_eq];rw [hl d (by lia)];constructor
    ·exact .inr
    ·rintro (z | z)
     ·lia
     ·exact z
  have kn:k ∉ l:=λz=>by have:=h0 k z;lia
  by_cases hc:inO (h.dir k) l=true
  ·have ih:=ZBh g (p:=p) F k (l++ [k]) (by lia) (λj hj=>by
    by_cases e:j=k
    ·subst e;simp [hin.mp hc]
    ·rw [List.mem_append];simp only [List.mem_singleton,e,or_false];exact hl j (by lia)) (λj hj=>by
    rcases List.mem_append.mp hj with z | z
    ·have:=h0 j z;lia
    ·simp at z;lia)
   show ((h.Jw k (if inO (h.dir k) l=true then l++ [k] else l)).map F).sum=(l.map F).sum + (Bm k (λj=>if p∈h.chain j then F j else 0) + (if p∈h.chain k then F k else 0))/\∀j,j∈h.Jw k (if inO (h.dir k) l=true then l++ [k] else l)↔_;rw [if_pos hc,if_pos (hin.mp hc)];refine ⟨?_,ih.2⟩;rw [ih.1];simp only [List.map_append,List.sum_append,List.map_cons,List.map_nil,List.sum_cons,List.sum_nil];lia
  ·have ih:=ZBh g (p:=p) F k l (by lia) (λj hj=>by
    by_cases e:j=k
    ·subst e;exact ⟨λz=>absurd z kn,λz=>absurd (hin.mpr z) hc⟩
    ·exact hl j (by lia)) (λj hj=>by have:=h0 j hj;lia)
   show ((h.Jw k (if inO (h.dir k) l=true then l++ [k] else l)).map F).sum=(l.map F).sum + (Bm k (λj=>if p∈h.chain j then F j else 0) + (if p∈h.chain k then F k else 0))/\∀j,j∈h.Jw k (if inO (h.dir k) l=true then l++ [k] else l)↔_;rw [if_neg hc,if_neg λz=>hc (hin.mpr z)];refine ⟨?_,ih.2⟩;rw [ih.1];lia
theorem ZI4 (h0:∀j,p < j->X j=0):∀n,p < n->Bm n X=Bm p X + X p
 | 0,h=>absurd h (by lia)
 | n + 1,h=>by
  show Bm n X + X n=_;by_cases e:p=n
  ·subst e;rfl
  ·rw [ZI4 h0 n (by lia),h0 n (by lia)];lia
theorem ZHn (g:GoodH h) (j:Nat) (hj:p<=j):j∈ [p]↔p∈h.chain j:=by
 simp only [List.mem_singleton];constructor
 ·intro z;subst z;exact ZB7 g j
 ·intro z;have:=(Nk g z).1;lia
theorem ZKR (g:GoodH h) (hp:p < h.n) (F:Nat->Int):((h.above p).map F).sum=Bm h.n λj=>if p∈h.chain j then F j else 0:=by have h1:=(ZBh g (p:=p) F p [p] (Nat.le_refl _) (ZHn g) (λj hj=>by simp at hj;lia)).1;have h2:=ZI4 (p:=p) (X:=λj=>if p∈h.chain j then F j else 0) (λj hj=>if_neg λz=>by have:=(Nk g z).1;lia) h.n hp;rw [h2];show ((h.Jw p [p]).map F).sum=_;rw [h1,if_pos (ZB7 g p)];simp;lia
theorem ZRL (g:GoodH h) :j∈h.above p↔p∈h.chain j:=(ZBh g (p:=p) (λ_=>0) p [p] (Nat.le_refl _) (ZHn g) (λj hj=>by simp at hj;lia)).2 j
theorem ZLT (hj:j < h.n) (hk:k < h.n) (hT:(h.pl k).kd.isT=true) (G:DH):ZAl [h.enc,.int j,.int k] G=.ok (.bl (h.ahead j k)) G:=by
 have a1:atI h.Ce (j:Int)=some (h.encP (h.pl j)):=Hs.Dr hj;have a2:atI h.Ce (k:Int)=some (h.encP (h.pl k)):=Hs.Dr hk;have e5:∀(i:Nat),(h.pl i).kd.isT=true->∀G,Ai (h.encP (h.pl i)) (.int 5) G=.ok (.int (h.rank i)) G:=λi hi G=>by
  unfold Hs.encP Hs.rank;cases e:(h.pl i).kd with
  | town a b=>simp
  | basin _ _ _=>rw [e] at hi;cases hi
  | mill _=>rw [e] at hi;cases hi
 unfold ZAl Zb Hs.ahead;rw [Be];cases hjT:(h.pl j).kd.isT with
 | false=>simp [By,a1,a2,Gw,hjT,Bd]
 | true=>
  by_cases h1:h.rank j < h.rank k
  ·simp [By,a1,a2,Gw,hjT,e5 j hjT,e5 k hT,h1,Bd]
  ·by_cases h2:h.rank j=h.rank k
   ·by_cases h3:j < k
    ·have h3':(j:Int) < k:=by lia
     simp [By,a1,a2,Gw,hjT,e5 j hjT,e5 k hT,h1,h2,h3,h3',Bd]
    ·have h3':¬(j:Int) < k:=by lia
     simp [By,a1,a2,Gw,hjT,e5 j hjT,e5 k hT,h1,h2,h3,h3',Bd]
   ·simp [By,a1,a2,Gw,hjT,e5 j hjT,e5 k hT,h1,h2,Bd]
theorem ZIV (G:DH):W8 [h.encP (h.pl k)] G=.ok (.int (h.need k)) G:=by
 unfold W8 Wu Hs.need;rw [Be];cases e:(h.pl k).kd with
 | town a b=>
  have e4:∀G,Ai (h.encP (h.pl k)) (.int 4) G=.ok (.int a) G:=λG=>by unfold Hs.encP;rw [e];simp
  simp [Gw,e,Kd.isT,e4,Bd]
 | basin _ _ _=>simp [Gw,e,Kd.isT,Bd]
 | mill _=>simp [Gw,e,Kd.isT,Bd]
noncomputable def frF (h:Hs) (pg:Nat->List Int) (k p j:Nat):Int:=(pg j).getD 0 0 - (if j≠p then (pg j).getD 3 0 else 0) - (if h.ahead j k=true then tk pg j else 0)
theorem ZHC (po:PageOk h pg) {p:Nat} (hk:k < h.n) (hT:(h.pl k).kd.isT=true) {G:DH}:∀(l:List Nat) (v:Int) (x:Option D),(∀j∈l,j < h.n)->∃x',Bg (gV 5) ZAM (Aq l) [some h.enc,some (pgD h.n pg),some (.int k),some (.int p),some (.int v),x] G=.nx [some h.enc,some (pgD h.n pg),some (.int k),some (.int p),some (.int (v + (l.map (frF h pg k p)).sum)),x'] G
 | [],v,x,_=>⟨x,by show Bg _ _ [] _ _=_;rw [Ec];simp⟩
 | j::l,v,x,hl=>by
  have hj:=hl j (by simp);obtain ⟨x',ih⟩:=ZHC po (p:=p) hk hT (G:=G) l (v + frF h pg k p j) (some (.int j)) λi hi=>hl i (List.mem_cons_of_mem _ hi)
  refine ⟨x',?_⟩;obtain ⟨a,b,c,d,e',f,e1,_⟩:=po.row j hj;have ar:=ZGv (n:=h.n) hj e1;have ca:=ZLT hj hk hT;have ejp:((j:Int)=(p:Int))=(j=p):=by rw [eq_iff_iff];lia
  have hb:ZAM [some h.enc,some (pgD h.n pg),some (.int k),some (.int p),some (.int v),some (.int j)] G=.nx [some h.enc,some (pgD h.n pg),some (.int k),some (.int p),some (.int (v + frF h pg k p j)),some (.int j)] G:=by
   unfold frF tk pgD;rw [e1];unfold ZAM;by_cases h1:j=p
   ·cases h2:h.ahead j k with
    | true=>simp [ar,ejp,h1,ca,h2] at * <;> simp [*] <;> lia
    | false=>simp [ar,ejp,h1,ca,h2] at * <;> simp [*] <;> lia
   ·cases h2:h.ahead j k with
    | true=>simp [ar,ejp,h1,ca,h2] <;> lia
    | false=>simp [ar,ejp,h1,ca,h2] <;> lia
  show Bg _ _ (.int (j:Int)::Aq l) _ _=_;rw [Dk];simp only [Do,R.Dj,List.set,hb,Dt];rw [ih,List.map_cons,List.sum_cons];have e:v + frF h pg k p j + (l.map (frF h pg k p)).sum=v + (frF h pg k p j + (l.map (frF h pg k p)).sum):=by lia
  rw [e]
theorem ZRj (g:GoodH h) (po:PageOk h pg) (hk:k < h.n) (hp:p < h.n) (hT:(h.pl k).kd.isT=true) (G:DH):ZB4 [h.enc,pgD h.n pg,.int k,.int p] G=.ok (.int (h.Jt pg k p)) G:=by
 obtain ⟨x',hL⟩:=ZHC po (p:=p) hk hT (G:=G) (h.above p) 0 none λj hj=>by have h1:=Nk g ((ZRL g).mp hj);lia
 have es:(0:Int) + ((h.above p).map (frF h pg k p)).sum=h.Jt pg k p:=by
  rw [ZKR g hp,Int.zero_add]
  rfl
 rw [es] at hL;have ca:=ZQb g hp G;have fz:freeze G (.ok (.ref G.length) (G++ [.lst (Aq (h.above p))]))=.ok (.fl (Aq (h.above p))) G:=Gn ZEC;unfold ZB4 Zq;rw [Be];simp [ca,fz,hL,Bd]
theorem ZHo (g:GoodH h) (po:PageOk h pg) (hk:k < h.n) (hT:(h.pl k).kd.isT=true) {s0 s2:Option D} {G:DH}:∀(m:Nat) (o:Option Nat) (v:Int),0 < m->(∀d,o=some d->d < h.n/\h.n - d < m/\(h.pl d).kd.isB=false)->
  sWh K4 Ms m [s0,some h.enc,s2,some (pgD h.n pg),some (.int k),some (h.encP (h.pl k)),some (.int v),some (dnD o)] G=.nx [s0,some h.enc,s2,some (pgD h.n pg),some (.int k),some (h.encP (h.pl k)),some (.int (((h.J7 o).map (h.Jt pg k)).foldl min v)),some .non] G
 | 0,o,v,h0,hd=>by lia
 | m + 1,none,v,h0,hd=>by
  have ht:K4 [s0,some h.enc,s2,some (pgD h.n pg),some (.int k),some (h.encP (h.pl k)),some (.int v),some (dnD none)] G=.ok false G:=by unfold K4;simp [Gw,hT,dnD]
  unfold sWh;rw [ht];simp [Hs.J7,dnD]
 | m + 1,some d,v,h0,hd=>by
  obtain ⟨h1,h2,h3⟩:=hd d rfl;have ht:K4 [s0,some h.enc,s2,some (pgD h.n pg),some (.int k),some (h.encP (h.pl k)),some (.int v),some (dnD (some d))] G=.ok true G:=by unfold K4;simp [Gw,hT,dnD]
  have hb:Ms [s0,some h.enc,s2,some (pgD h.n pg),some (.int k),some (h.encP (h.pl k)),some (.int v),some (dnD (some d))] G=.nx [s0,some h.enc,s2,some (pgD h.n pg),some (.int k),some (h.encP (h.pl k)),some (.int (min v (h.Jt pg k d))),some (dnD (h.dir d))] G:=by unfold Ms;simp [dnD,ZRj g po hk h1 hT,ZDY g h1 h3]
  have ih:=ZHo g po hk hT (s0:=s0) (s2:=s2) (G:=G) m (h.dir d) (min v (h.Jt pg k d)) (by lia) (λq hq=>by have hl:=Gx g hq;exact ⟨hl.2.1,by lia,(ZEp hq).2.2.2⟩)
  have ec:h.J7 (some d)=d::h.J7 (h.dir d):=Ld g d;rw [ec,List.map_cons,List.foldl_cons,<-ih]
  conv=>lhs;unfold sWh
  rw [ht];have hb':Ms [s0,some h.enc,s2,some (pgD h.n pg),some (.int k),some (h.encP (h.pl k)),some (.int v),some (.int (d:Int))] G=_:=hb;simp [hb']
theorem ZIA:∀(l:List Int) (v:Int),l.foldl min v<=v
 | [],v=>Int.le_refl _
 | x::l,v=>by have:=ZIA l (min v x);show l.foldl min (min v x)<=v;lia
theorem ZJl (g:GoodH h) (t:TI h yt lv co fl h.n s) (nn:s.NN h.n) (po:PageOk h s.page) {s0 s2:Option D} {G:DH}:∀(m k:Nat) (x4 x5 x6 x7:Option D),k + m=h.n->∃y4 y5 y6 y7,
  Bg (gV 4) Mr (Cg k m) [s0,some h.enc,s2,some (pgD h.n s.page),x4,x5,x6,x7] G=.nx [s0,some h.enc,s2,some (pgD h.n s.page),y4,y5,y6,y7] G
 | 0,k,x4,x5,x6,x7,e=>⟨x4,x5,x6,x7,by rw [Ob,Ec]⟩
 | m + 1,k,x4,x5,x6,x7,e=>by
  have hk:k < h.n:=by lia
  have hn:=g.len;have ap:atI h.Ce (k:Int)=some (h.encP (h.pl k)):=Hs.Dr hk;have hb:∃y6 y7,Mr [s0,some h.enc,s2,some (pgD h.n s.page),some (.int k),x5,x6,x7] G=.nx [s0,some h.enc,s2,some (pgD h.n s.page),some (.int k),some (h.encP (h.pl k)),y6,y7] G:=by
   cases hB:(h.pl k).kd.isB with
   | true=>
    refine ⟨x6,x7,?_⟩;unfold Mr Wm;simp [By,ap,G7,hB]
   | false=>
    obtain ⟨a,b,c,d,e',f,e1,n1,n2,_⟩:=po.row k hk;have ar:=ZGv (n:=h.n) hk e1;have ip:∀G,Ai (pgD h.n s.page) (.int (k:Int)) G=.ok (.tup [.int a,.int b,.int c,.int d,.int e',.int f]) G:=λG=>by unfold pgD;simp [ar]
    have hl:=(Hy g k).2 hk;have hrow:=t.reach k hk hB hl;rw [e1] at hrow;have hd:d=a - b:=by unfold rrow at hrow;simp only [List.cons.injEq] at hrow;lia
    have htr:=ZRx g t nn hk hB;have hb1:tk s.page k=b:=by unfold tk;rw [e1];rfl
    rw [hb1] at htr;cases hT:(h.pl k).kd.isT with
    | true=>
     have hw:=ZHo g po hk hT (s0:=s0) (s2:=s2) (G:=G) fuel (some k) (h.need k) (by decide) (λq hq=>by cases hq;exact ⟨hk,by show h.n - k < fuel;unfold fuel;lia,hB⟩)
     have ec:h.J7 (some k)=h.chain k:=rfl;rw [ec,<-htr] at hw;refine ⟨some (.int b),some .non,?_⟩;have hw':sWh K4 Ms fuel [s0,some h.enc,s2,some (pgD h.n s.page),some (.int k),some (h.encP (h.pl k)),some (.int (h.need k)),some (.int k)] G=_:=hw;unfold Mr Wm;simp [By,ap,G7,hB,ZIV,hw',ip,hd]
    | false=>
     have hz:b=0:=by have h1:=ZIA ((h.chain k).map (h.Jt s.page k)) (h.need k);rw [<-htr,ZFd hT] at h1;lia
     have ht:K4 [s0,some h.enc,s2,some (pgD h.n s.page),some (.int k),some (h.encP (h.pl k)),some (.int 0),some (.int k)] G=.ok false G:=by unfold K4;simp [Gw,hT]
     have hw':sWh K4 Ms fuel [s0,some h.enc,s2,some (pgD h.n s.page),some (.int k),some (h.encP (h.pl k)),some (.int 0),some (.int k)] G=.nx [s0,some h.enc,s2,some (pgD h.n s.page),some (.int k),some (h.encP (h.pl k)),some (.int 0),some (.int k)] G:=by
      have ef:fuel=(fuel - 1) + 1:=by decide
      rw [ef];unfold sWh;rw [ht];simp
     have hd0:d=a:=by lia
     refine ⟨some (.int 0),some (.int k),?_⟩;unfold Mr Wm;simp [By,ap,G7,hB,ZIV,ZFd hT,hw',ip,hz,hd0]
  obtain ⟨y6,y7,hb⟩:=hb;obtain ⟨z4,z5,z6,z7,ih⟩:=ZJl g t nn po (s0:=s0) (s2:=s2) (G:=G) m (k + 1) (some (.int k)) (some (h.encP (h.pl k))) y6 y7 (by lia);refine ⟨z4,z5,z6,z7,?_⟩;rw [Kp,Dk];simp only [Do,R.Dj,List.set,hb,Dt];have e2:((k:Int) + 1)=((k + 1:Nat):Int):=by lia
  rw [e2,ih]
theorem ZO5 (hl:ns.length<=63) (G:DH):Nz [.fl (ns.map D.int)] G=.ok (.bl true) G:=by
 obtain ⟨f,hf⟩:=cells hl;obtain ⟨u,hu1,cu⟩:=ZNB hf;have hu:0 < u:=by lia
 obtain ⟨yr,hyr,cy⟩:=ZN0 hf;obtain ⟨h,ht,ch⟩:=ZQL hf hyr cy hu cu;have g:=ht.good;obtain ⟨a,ha,ca⟩:=ZPV hf;have f2:∀G,Bc [.fl (ns.map D.int),.int 2] G=.ok (.int (f 2)) G:=hf 2 (by lia);have cdn:∀G,I8 [.fl (ns.map D.int)] G=.ok (.bl (decide (f 2 % 2=1))) G:=λG=>by unfold I8 Km;rw [Be];simp [f2,Bd]
 have cs:=ZKv hf hu cu g;have cf:=ZPd hf hu cu cdn g;have hf0:∀k,k < h.n->0<=flE h.n f u (decide (f 2 % 2=1)) k:=λk _=>ZRn hu k
 generalize flE h.n f u (decide (f 2 % 2=1))=fl at cf hf0;have so:StOk h (lvS h f u) (coS h f u):=⟨λk hk=>(ZFg g hk).1,λk hk=>(ZFg g hk).2.2,λk j _ _=>ZKO hu k j⟩;have ct:=ZRl g (lv:=lvS h f u) (fl:=fl) (co:=coS h f u) (at_:=a) so.co0 hf0;have t:=ZNe (lv:=lvS h f u) (co:=coS h f u) (fl:=fl) g (at_:=a);have nn:=ZKn g (lv:=lvS h f u) (fl:=fl) (co:=coS h f u) (a:=a) so.co0 hf0;have p:=ZMC g t nn so.lv0
 generalize h.cs (lvS h f u) (coS h f u) a fl=s at ct t nn p;obtain ⟨y4,y5,y6,y7,hL⟩:=ZJl g t nn p (s0:=some (.fl (ns.map D.int))) (s2:=some (stD h.n (lvS h f u) (coS h f u))) (G:=G) h.n 0 none none none none (by lia);have hL':Bg (gV 4) Mr (Cg 0 h.n) _ _=_:=hL;have cp:=ZSZ p G;have fz:freeze G (.ok (.ref G.length) (G++ [.lst [.tup (tab h.n fl)]]))=.ok (.fl [.tup (tab h.n fl)]) G:=Gn (by simp);have hlen:(Cm h.n s.page).length=h.n:=ZDn
 have hr:inR (h.n:Int):=Gr (by lia) (by have:=g.len;lia);unfold pgD at hL' cp;generalize stD h.n (lvS h f u) (coS h f u)=E0 at cs ct hL';unfold Nz ZB6;rw [Be];simp [ch,cs,ca,cf,fz,ct,By,Hs.K5,cp,hlen,hr,hL',Bd]
theorem holds:Holds:=λns hl=>⟨[],ZO5 hl []⟩
end Law
namespace Law
open PySem L2 DL
seal QE QT QA QS QSs QG QGs QI QTs QW QO
structure Adr where
 Qv:Addr
 Vx:FuncData
 Rq:Addr
 Yh:FuncData
 Rx:Addr
 ZBI:FuncData
 S8:Addr
 ZBi:FuncData
 Uj:Addr
 ZAR:FuncData
 Su:Addr
 ZAz:FuncData
 Rv:Addr
 Zw:FuncData
 U8:Addr
 Wa:FuncData
 Tg:Addr
 ZAU:FuncData
 Rj:Addr
 ZBD:FuncData
 Qu:Addr
 Wq:FuncData
 Rt:Addr
 ZBo:FuncData
 Sw:Addr
 Y7:FuncData
 R6:Addr
 ZAq:FuncData
 R3:Addr
 Zy:FuncData
 R0:Addr
 ZA5:FuncData
 U5:Addr
 ZBA:FuncData
 Qz:Addr
 ZAj:FuncData
 Rc:Addr
 Yn:FuncData
 T9:Addr
 Yr:FuncData
 Te:Addr
 Za:FuncData
 Rf:Addr
 Vz:FuncData
 Qq:Addr
 Xf:FuncData
 V5:Addr
 Y9:FuncData
 R4:Addr
 ZAy:FuncData
 Yx:Addr
 ZBP:FuncData
 Tt:Addr
 ZAc:FuncData
 V2:Addr
 Zt:FuncData
 ZBM:Addr
 ZB3:FuncData
 Ub:Addr
 ZAm:FuncData
 Rh:Addr
 Xq:FuncData
 ZBN:Addr
 ZBp:FuncData
 Tn:Addr
 Xw:FuncData
 Sq:Addr
 ZAi:FuncData
 U3:Addr
 V8:FuncData
 Qw:Addr
 ZBS:FuncData
 Ui:Addr
 Xk:FuncData
 U6:Addr
 ZBV:FuncData
 V6:Addr
 ZAQ:FuncData
 Tw:Addr
 ZBs:FuncData
 X5:Addr
 V7:FuncData
 Z5:Addr
 Ze:FuncData
 Uw:Addr
 Xd:FuncData
 Qc:Addr
 Uu:FuncData
 ZQe:Tok
 ZPR:Tok
 ZN8:Tok
 ZMy:Tok
 ZRv:Tok
 ZQH:Tok
 ZNQ:Tok
 ZNl:Tok
 ZPK:Tok
 ZMV:Tok
 ZPQ:Tok
 ZKm:Tok
 ZP1:Tok
 ZN2:Tok
 ZM9:Tok
 ZOB:Tok
 ZMD:Tok
 ZQ5:Tok
 ZQW:Tok
 Fp:Addr
structure Txt (K:PySem.W.Frag) (mg:Str->Option Value) (t:Adr):Prop where
 X8:Fun K "_law_amount" "_law_amount" ZCo t.Qv t.Vx
 Ng:Binds K t.Vx ["_law_cell","_law_unit_here"] []
 Pk:mg "_law_amount"=some (.ref t.Qv)
 Pj:PySem.W.keepIn K (.ref t.Qv)=true
 Zz:Fun K "_law_off" "_law_off" ZD7 t.Rq t.Yh
 Sx:Binds K t.Yh ["_law_number_here","_law_k"] []
 ZDe:mg "_law_off"=some (.ref t.Rq)
 ZC0:PySem.W.keepIn K (.ref t.Rq)=true
 ZAV:Fun K "_law_tape" "_law_tape" ZDD t.Rx t.ZBI
 Qg:Binds K t.ZBI ["_law_script"] []
 ZA8:mg "_law_tape"=some (.ref t.Rx)
 ZBk:PySem.W.keepIn K (.ref t.Rx)=true
 Z0:Fun K "_law_cell_at" "_law_cell_at" ZFB t.S8 t.ZBi
 Ds:Binds K t.ZBi ["_law_script","_law_k"] []
 Ej:mg "_law_cell_at"=some (.ref t.S8)
 Ep:PySem.W.keepIn K (.ref t.S8)=true
 ZA4:Fun K "_law_dense" "_law_dense" ZFE t.Uj t.ZAR
 Km:Binds K t.ZAR ["_law_script"] []
 Mp:mg "_law_dense"=some (.ref t.Uj)
 Nx:PySem.W.keepIn K (.ref t.Uj)=true
 Wv:Fun K "_law_unit" "_law_unit" ZCe t.Su t.ZAz
 Jp:Binds K t.ZAz ["_law_script"] []
 N8:mg "_law_unit"=some (.ref t.Su)
 Ni:PySem.W.keepIn K (.ref t.Su)=true
 Wf:Fun K "_law_floods" "_law_floods" Qd t.Rv t.Zw
 Wz:Binds K t.Zw ["_law_script","_law_house_here","_law_turns"] []
 ZED:mg "_law_floods"=some (.ref t.Rv)
 ZDk:PySem.W.keepIn K (.ref t.Rv)=true
 Wj:Fun K "_law_down" "_law_down" ZDN t.U8 t.Wa
 Ro:Binds K t.Wa ["_law_house_here","_law_k"] []
 ZE9:mg "_law_down"=some (.ref t.U8)
 ZEa:PySem.W.keepIn K (.ref t.U8)=true
 Yt:Fun K "_law_next" "_law_next" ZCZ t.Tg t.ZAU
 T3:Binds K t.ZAU ["_law_house_here","_law_k"] []
 Wr:mg "_law_next"=some (.ref t.Tg)
 ZAO:PySem.W.keepIn K (.ref t.Tg)=true
 ZBu:Fun K "_law_above" "_law_above" ZE8 t.Rj t.ZBD
 ZAg:Binds K t.ZBD ["_law_house_here","_law_at"] []
 ZEg:mg "_law_above"=some (.ref t.Rj)
 ZCU:PySem.W.keepIn K (.ref t.Rj)=true
 Vy:Fun K "_law_ahead" "_law_ahead" ZFO t.Qu t.Wq
 Zb:Binds K t.Wq ["_law_house_here","_law_k","_law_at"] []
 ZDR:mg "_law_ahead"=some (.ref t.Qu)
 ZEm:PySem.W.keepIn K (.ref t.Qu)=true
 ZAf:Fun K "_law_free" "_law_free" ZD9 t.Rt t.ZBo
 Zq:Binds K t.ZBo ["_law_house_here","_law_page_here","_law_at","_law_place"] []
 ZFM:mg "_law_free"=some (.ref t.Rt)
 ZDP:PySem.W.keepIn K (.ref t.Rt)=true
 Zd:Fun K "_law_pumped" "_law_pumped" ZEv t.Sw t.Y7
 ZBR:Binds K t.Y7 ["_law_steps_here"] []
 ZB8:mg "_law_pumped"=some (.ref t.Sw)
 ZDh:PySem.W.keepIn K (.ref t.Sw)=true
 Yz:Fun K "_law_steps" "_law_steps" ZFa t.R6 t.ZAq
 ZBX:Binds K t.ZAq ["_law_cells","_law_unit_here","_law_pumps"] []
 ZCn:mg "_law_steps"=some (.ref t.R6)
 ZCG:PySem.W.keepIn K (.ref t.R6)=true
 Xz:Fun K "_law_year" "_law_year" ZEO t.R3 t.Zy
 Oi:Binds K t.Zy ["_law_script"] []
 Vg:mg "_law_year"=some (.ref t.R3)
 W4:PySem.W.keepIn K (.ref t.R3)=true
 Vd:Fun K "_law_rule" "_law_rule" Rr t.R0 t.ZA5
 ZAn:Binds K t.ZA5 ["_law_script","_law_b","_law_unit_here","_law_pumps"] []
 ZD6:mg "_law_rule"=some (.ref t.R0)
 ZDQ:PySem.W.keepIn K (.ref t.R0)=true
 Yc:Fun K "_law_basin" "_law_basin" Zu t.U5 t.ZBA
 Uh:Binds K t.ZBA ["_law_script","_law_b","_law_k","_law_names","_law_river"] []
 ZDx:mg "_law_basin"=some (.ref t.U5)
 ZC9:PySem.W.keepIn K (.ref t.U5)=true
 Xp:Fun K "_law_name" "_law_name" ZB9 t.Qz t.ZAj
 ZBy:Binds K t.ZAj ["_law_cell","_law_k","_law_many"] []
 ZFR:mg "_law_name"=some (.ref t.Qz)
 ZEl:PySem.W.keepIn K (.ref t.Qz)=true
 Zo:Fun K "_law_house" "_law_house" Y0 t.Rc t.Yn
 Vn:Binds K t.Yn ["_law_script"] []
 ZCv:mg "_law_house"=some (.ref t.Rc)
 ZEw:PySem.W.keepIn K (.ref t.Rc)=true
 Ye:Fun K "_law_need" "_law_need" ZCf t.T9 t.Yr
 Wu:Binds K t.Yr ["_law_place"] []
 ZDC:mg "_law_need"=some (.ref t.T9)
 ZC5:PySem.W.keepIn K (.ref t.T9)=true
 ZA6:Fun K "_law_number" "_law_number" ZEL t.Te t.Za
 Rk:Binds K t.Za ["_law_script"] []
 ZFF:mg "_law_number"=some (.ref t.Te)
 ZCB:PySem.W.keepIn K (.ref t.Te)=true
 Z4:Fun K "_law_whole" "_law_whole" ZEK t.Rf t.Vz
 Zx:Binds K t.Vz ["_law_number_here"] []
 ZCd:mg "_law_whole"=some (.ref t.Rf)
 ZFQ:PySem.W.keepIn K (.ref t.Rf)=true
 ZAe:Fun K "_law_page" "_law_page" ZBZ t.Qq t.Xf
 ZA9:Binds K t.Xf ["_law_page_here","_law_many"] []
 ZEG:mg "_law_page"=some (.ref t.Qq)
 ZC8:PySem.W.keepIn K (.ref t.Qq)=true
 ZBe:Fun K "_law_state" "_law_state" ZFX t.V5 t.Y9
 ZBE:Binds K t.Y9 ["_law_script","_law_house_here"] []
 ZDA:mg "_law_state"=some (.ref t.V5)
 ZCu:PySem.W.keepIn K (.ref t.V5)=true
 Ws:Fun K "__init__" "Course.__init__" Tq t.R4 t.ZAy
 Yq:Binds K t.ZAy ["self","house","state","at","flood"] []
 ZUw:Meth K t.Fp "__init__" t.R4
 Vm:Fun K "send" "Course.send" ZDr t.Yx t.ZBP
 Tu:Binds K t.ZBP ["self","to","delay","cubes"] []
 ZGw:Meth K t.Fp "send" t.Yx
 ZAN:Fun K "number_of" "number_of" ZCA t.Tt t.ZAc
 Qy:Binds K t.ZAc ["house","name"] []
 Yg:mg "number_of"=some (.ref t.Tt)
 ZBc:PySem.W.keepIn K (.ref t.Tt)=true
 Yw:Fun K "down_of" "down_of" ZFU t.V2 t.Zt
 Uy:Binds K t.Zt ["house","place"] []
 Xh:mg "down_of"=some (.ref t.V2)
 ZBG:PySem.W.keepIn K (.ref t.V2)=true
 ZA0:Fun K "send_down" "Course.send_down" ZER t.ZBM t.ZB3
 Sg:Binds K t.ZB3 ["self","number","cubes"] []
 ZGz:Meth K t.Fp "send_down" t.ZBM
 Zn:Fun K "opened" "opened" ZEj t.Ub t.ZAm
 Vv:Binds K t.ZAm ["stairs","water"] []
 ZFN:mg "opened"=some (.ref t.Ub)
 ZCD:PySem.W.keepIn K (.ref t.Ub)=true
 ZAC:Fun K "stairs_at" "stairs_at" ZFT t.Rh t.Xq
 W2:Binds K t.Xq ["rule","turn"] []
 ZC6:mg "stairs_at"=some (.ref t.Rh)
 ZCX:PySem.W.keepIn K (.ref t.Rh)=true
 Zm:Fun K "go_basin" "Course.go_basin" ZDL t.ZBN t.ZBp
 X6:Binds K t.ZBp ["self","number"] []
 ZMU:Meth K t.Fp "go_basin" t.ZBN
 ZAo:Fun K "passed" "passed" Z2 t.Tn t.Xw
 S7:Binds K t.Xw ["rows","takes"] []
 ZBz:mg "passed"=some (.ref t.Tn)
 ZBg:PySem.W.keepIn K (.ref t.Tn)=true
 Ww:Fun K "down_in_reach" "down_in_reach" ZCR t.Sq t.ZAi
 Um:Binds K t.ZAi ["house","number"] []
 Xg:mg "down_in_reach"=some (.ref t.Sq)
 ZBl:PySem.W.keepIn K (.ref t.Sq)=true
 X4:Fun K "reach_rows" "reach_rows" ZFb t.U3 t.V8
 ZBL:Binds K t.V8 ["house","members","came"] []
 ZDw:mg "reach_rows"=some (.ref t.U3)
 ZFJ:PySem.W.keepIn K (.ref t.U3)=true
 ZAd:Fun K "served" "served" T6 t.Qw t.ZBS
 Xr:Binds K t.ZBS ["rows"] []
 ZE3:mg "served"=some (.ref t.Qw)
 ZDu:PySem.W.keepIn K (.ref t.Qw)=true
 Zr:Fun K "way_down" "way_down" ZDI t.Ui t.Xk
 W7:Binds K t.Xk ["rows","number"] []
 ZE7:mg "way_down"=some (.ref t.Ui)
 ZEn:PySem.W.keepIn K (.ref t.Ui)=true
 ZBF:Fun K "shares" "shares" ZB0 t.U6 t.ZBV
 W6:Binds K t.ZBV ["rows"] []
 ZCr:mg "shares"=some (.ref t.U6)
 ZDd:PySem.W.keepIn K (.ref t.U6)=true
 Z3:Fun K "go_reach" "Course.go_reach" ZEW t.V6 t.ZAQ
 Z6:Binds K t.ZAQ ["self","members"] []
 ZPv:Meth K t.Fp "go_reach" t.V6
 Wy:Fun K "lasts_of_reaches" "lasts_of_reaches" ZEy t.Tw t.ZBs
 Yv:Binds K t.ZBs ["house"] []
 ZDB:mg "lasts_of_reaches"=some (.ref t.Tw)
 ZCN:PySem.W.keepIn K (.ref t.Tw)=true
 ZA2:Fun K "go" "Course.go" Vp t.X5 t.V7
 Zf:Binds K t.V7 ["self"] []
 ZNu:Meth K t.Fp "go" t.X5
 ZAB:Fun K "state_behind" "Course.state_behind" Td t.Z5 t.Ze
 Z7:Binds K t.Ze ["self"] []
 ZPr:Meth K t.Fp "state_behind" t.Z5
 ZBt:Fun K "turn" "turn" ZCp t.Uw t.Xd
 Vu:Binds K t.Xd ["house","state","at","flood"] []
 ZE4:mg "turn"=some (.ref t.Uw)
 ZDK:PySem.W.keepIn K (.ref t.Uw)=true
 Uv:Fun K "law" "law" Ii t.Qc t.Uu
 ZB6:Binds K t.Uu ["_law_script"] []
 Vt:mg "law"=some (.ref t.Qc)
 ZHf:PySem.W.keepIn K (.ref t.Qc)=true
 Cv:PySem.W.nsIn K mainGlobals "Course"=some (some (.ref t.Fp))
 Cz:Cls K t.Fp
 ZLf:mg "Course"=some (.ref t.Fp)
 ZDH:Mk K t.Fp t.R4
 Py:NoAttr K t.Fp "came"
 T4:NoAttr K t.Fp "coming"
 Jr:NoAttr K t.Fp "house"
 Yl:NoAttr K t.Fp "levels"
 Mx:NoAttr K t.Fp "page"
 Wo:NoAttr K t.Fp "reaches"
 Vq:NoAttr K t.Fp "year_turn"
 ZNK:mg "all"=none
 ZL1:mg "bool"=none
 Uq:mg "enumerate"=none
 ZCc:mg "int"=none
 ZAs:mg "isinstance"=none
 Eh:mg "len"=none
 ZH5:mg "list"=none
 ZIS:mg "max"=none
 Oh:mg "min"=none
 Gs:mg "range"=none
 ZR1:mg "sorted"=none
 Hr:mg "tuple"=none
 ZCE:mg "zip"=none
 ZDW:mg "BRIM"=some (.int 4 t.ZQe)
 ZAh:mg "DELAY"=some (.int 3 t.ZPR)
 ZEf:mg "DOWN"=some (.int 2 t.ZN8)
 Qh:mg "KIND"=some (.int 0 t.ZMy)
 ZEc:mg "LIES"=some (.int 5 t.ZRv)
 ZD4:mg "NAME"=some (.int 1 t.ZQH)
 ZDb:mg "NEED"=some (.int 4 t.ZNQ)
 J1:mg "PLACES"=some (.int 1 t.ZNl)
 Ug:mg "PUMP"=some (.int 6 t.ZPK)
 ZDM:mg "PUMP_DELAY"=some (.int 1 t.ZMV)
 ZDU:mg "PUMP_TO"=some (.int 0 t.ZPQ)
 ZEY:mg "RANK"=some (.int 5 t.ZKm)
 Qj:mg "ROW_DOWN"=some (.int 0 t.ZP1)
 ZEZ:mg "ROW_NEED"=some (.int 2 t.ZN2)
 ZEz:mg "ROW_RANK"=some (.int 3 t.ZM9)
 ZEt:mg "ROW_WATER"=some (.int 1 t.ZOB)
 ZFA:mg "RULE"=some (.int 5 t.ZMD)
 ZCH:mg "SEA"=some (.str "sea" t.ZQ5)
 ZEd:mg "YEAR"=some (.int 0 t.ZQW)
section
variable {P:Program} {w:World} {K:PySem.W.Frag} {mg:Str->Option Value} {base:Heap} {t:Adr}
theorem ZAE (T:Txt K mg t):FnOk P w K mg base CX0 1 t.Qv t.Vx ["_law_cell","_law_unit_here"] (lF K Mt):=by
 refine Bt T.X8 ZK9 λcdv A outer s H E hr=> ?_
 exact (Am (Bk (Ag Ba (Ag Dq (Aa 1) (Ag Bp (Aa 0) Ad)) (Ag Bp (Ag Dm (Aa 0) Ad) (Aa 1)))))
theorem ZLO (T:Txt K mg t):FnOk P w K mg base CX0 1 t.Rq t.Yh ["_law_number_here","_law_k"] (lF K Rg):=by
 refine Bt T.Zz Ri λcdv A outer s H E hr=> ?_
 exact (Aj (Br (ZLk o_le Jj Ad (Aa 0) (Ag Mm Ad Ad)) (Aj (An 0 Ri.nd (Ag Bp (Ag Ba (Ag Ba (Aa 0) (Ag Dq Ad (Aa 1))) Ad) Ad)) (Aj (An 0 Ri.nd (Ag Bp (Ag Dq (Aa 0) (Aa 0)) Ad)) (Am (Bk (Ag Bp (Ag Dq (Aa 0) (Ag Ba (Aa 0) (Aa 1))) Ad))))) Bu) (Aj (Ed PassesOwn.never rfl (Hz rfl T.Gs (Ac (Aa 1) Af)) (Bb 2 Ri.nd) (Am (An 0 Ri.nd (Ag Dm (Aa 0) (Ag Mm Ad Ad))))) (Am (Bk (Ag Bp (Aa 0) (Ag Mm Ad Ad))))))
theorem ZJb (T:Txt K mg t):FnOk P w K mg base CX0 1 t.Rx t.ZBI ["_law_script"] (lF K Mi):=by
 refine Bt T.ZAV ZQP λcdv A outer s H E hr=> ?_
 exact (Am (Bk (Pr (Jb O7 (Cu Ei rfl T.Eh El (Ac (Aa 0) Af)) Ad (nomark _)) (Nu (ZJK (Jb Jj (Al Ak (Aa 0) Ad) Ad (nomark _)) (Nu (Jb o_ge (Al Ak (Aa 0) Ad) (Ag Mm Ad Ad) (nomark _))))))))
theorem Ez (T:Txt K mg t):FnOk P w K mg base CX0 2 t.S8 t.ZBi ["_law_script","_law_k"] (lF K Bc):=by
 refine Bt T.Z0 Tj λcdv A outer s H E hr=> ?_
 exact (Aj (Br (Io (Aw (ZJb T) (hr.mono (by decide)) rfl T.ZA8 T.ZBk T.Qg pass0 (Ac (Aa 0) Af))) (Aj (An 2 Tj.nd Ad) (Aj (Br (Bl Jj (Ag Ba Ad (Ag Dm (Aa 1) Ad)) (Cu Ei rfl T.Eh El (Ac (Aa 0) Af)) (nomark _)) (Am (An 2 Tj.nd (Al Ak (Aa 0) (Ag Ba Ad (Ag Dm (Aa 1) Ad))))) Bu) (Am (Bk (Aw (ZLO T) (hr.mono (by decide)) rfl T.ZDe T.ZC0 T.Sx pass0 (Ac (Aa 2) (Ac (Ag Bp (Aa 1) Ad) Af))))))) Bu) (Aj (Br (Bl Jj (Aa 1) (Cu Ei rfl T.Eh El (Ac (Aa 0) Af)) (nomark _)) (Am (Bk (Al Ak (Aa 0) (Aa 1)))) Bu) (Aj (An 2 Tj.nd (Ag Bp (Ag Dq Ad (Ag Ba (Ag Dq (Aa 1) (Aa 1)) (Ag Dq Ad (Cu Ei rfl T.Eh El (Ac (Aa 0) Af))))) Ad)) (Aj (Br (Bl O7 (Cu Ei rfl T.Eh El (Ac (Aa 0) Af)) Ad (nomark _)) (Am (An 2 Tj.nd (Ag Ba (Aa 2) (Ag Bp (Ag Dq (Al Ak (Aa 0) (Ag Bp (Aa 1) (Cu Ei rfl T.Eh El (Ac (Aa 0) Af)))) Ad) Ad)))) Bu) (Am (Bk (Aa 2)))))))
theorem Ue (T:Txt K mg t):FnOk P w K mg base CX0 3 t.Uj t.ZAR ["_law_script"] (lF K I8):=by
 refine Bt T.ZA4 ZME λcdv A outer s H E hr=> ?_
 exact (Am (Bk (Jb (Dl hr.units) (Ag Bp (Aw (Ez T) (hr.mono (by decide)) rfl T.Ej T.Ep T.Ds pass0 (Ac (Aa 0) (Ac Ad Af))) Ad) Ad (nomark _))))
theorem U4 (T:Txt K mg t):FnOk P w K mg base CX0 3 t.Su t.ZAz ["_law_script"] (lF K Gf):=by
 refine Bt T.Wv ZOi λcdv A outer s H E hr=> ?_
 exact (Am (Bk (Al Ak (Df (Fd (Ac Ad (Ac Ad (Ac (Ag Mm Ad Ad) Af))))) (Ag Bp (Ag Dm (Aw (Ez T) (hr.mono (by decide)) rfl T.Ej T.Ep T.Ds pass0 (Ac (Aa 0) (Ac Ad Af))) Ad) Ad))))
theorem ZNG (T:Txt K mg t):FnOk P w K mg base CX0 4 t.Rv t.Zw ["_law_script","_law_house_here","_law_turns"] (lF K Vk):=by
 refine Bt T.Wf Li λcdv A outer s H E hr=> ?_
 exact (Aj (An 3 Li.nd (Cu Ei rfl T.Eh El (Ac (Al Ak (Aa 1) Ad) Af))) (Aj (An 4 Li.nd (Ag Ba Ad (Ag Dq Ad (Aa 3)))) (Aj (An 5 Li.nd (Fx (Fd Af))) (Aj (Ed PassesOwn.never rfl (Hz rfl T.Gs (Ac (Aa 2) Af)) (Bb 6 Li.nd) (Aj (Ox (Mj 7 rfl Li.nd (Fy (dn:=(Av Qd).names) (N0:=Wl) (N:= ["_law_k","_law_script","_law_many","_law_b","_law_at"]) (nt:=1) (caps:= [0,3,4,6])) (Hz rfl T.Gs (Ac (Aa 3) Af)) (λC s₀ H₀ ex=>(Bb 0 (show (["_law_k","_law_script","_law_many","_law_b","_law_at"]:List Str).Nodup by decide +kernel))) (Eo (by decide)) (λC s₀ H₀ ex=>Gu) (λC s₀ H₀ ex=>(Aw (Ez T) (hr.mono (by decide)) rfl T.Ej T.Ep T.Ds pass0 (Ac (Aa 1) (Ac (Ag Ba (Ag Ba (Aa 3) (Ag Dq (Aa 4) (Aa 2))) (Aa 0)) Af)))))) (Aj (Ox (Mj 8 rfl Li.nd (Fy (dn:=(Av Qd).names) (N0:=Wl) (N:= ["_law_cell","_law_script"]) (nt:=1) (caps:= [0])) (G9 (Aa 7)) (λC s₀ H₀ ex=>(Bb 0 (show (["_law_cell","_law_script"]:List Str).Nodup by decide +kernel))) (Eo (by decide)) (λC s₀ H₀ ex=>Gu) (λC s₀ H₀ ex=>(Aw (ZAE T) (hr.mono (by decide)) rfl T.Pk T.Pj T.Ng pass0 (Ac (Aa 0) (Ac (Df (Aw (U4 T) (hr.mono (by decide)) rfl T.N8 T.Ni T.Jp pass0 (Ac (Aa 1) Af))) Af)))))) (Aj (Br (Io (Aw (Ue T) (hr.mono (by decide)) rfl T.Mp T.Nx T.Km pass0 (Ac (Aa 0) Af))) (Am (Ox (Mj 8 rfl Li.nd (Fy (dn:=(Av Qd).names) (N0:=Wl) (N:= ["_law_cell","_law_script"]) (nt:=1) (caps:= [0])) (G9 (Aa 7)) (λC s₀ H₀ ex=>(Bb 0 (show (["_law_cell","_law_script"]:List Str).Nodup by decide +kernel))) (Eo (by decide)) (λC s₀ H₀ ex=>Gu) (λC s₀ H₀ ex=>(Df (Ag Dq (Df (Aw (U4 T) (hr.mono (by decide)) rfl T.N8 T.Ni T.Jp pass0 (Ac (Aa 1) Af))) (Ag Bp (Aa 0) Ad))))))) Bu) (Am (Ey (Hb PySem.F.slot_list_append PySem.F.type_list_append Hg (Aa 5) (Ac (Hf Iu rfl T.Hr Hq (Ac (Aa 8) Af)) Af)))))))) (Am (Bk (Aa 5)))))))
theorem ZKf (T:Txt K mg t):FnOk P w K mg base CX0 1 t.U8 t.Wa ["_law_house_here","_law_k"] (lF K Ry):=by
 refine Bt T.Wj ZFq λcdv A outer s H E hr=> ?_
 exact (Aj (Ed PassesOwn.never rfl (Hz rfl T.Gs (Ac (Cu Ei rfl T.Eh El (Ac (Al Ak (Aa 0) Ad) Af)) Af)) (Bb 2 ZFq.nd) (Am (Br (Bl (Dl hr.units) (Al Ak (Al Ak (Al Ak (Aa 0) Ad) (Aa 2)) Ad) (Al Ak (Al Ak (Al Ak (Aa 0) Ad) (Aa 1)) Ad) (nomark _)) (Am (Bk (Aa 2))) Bu))) (Am (Bk Gb)))
theorem ZJg (T:Txt K mg t):FnOk P w K mg base CX0 2 t.Tg t.ZAU ["_law_house_here","_law_k"] (lF K R9):=by
 refine Bt T.Yt ZHs λcdv A outer s H E hr=> ?_
 exact (Aj (An 2 ZHs.nd (Aw (ZKf T) (hr.mono (by decide)) rfl T.ZE9 T.ZEa T.Ro pass0 (Ac (Aa 0) (Ac (Aa 1) Af)))) (Aj (Br (Ib (Ke (Bl ZDZ (Aa 2) Gb (nomark _)) (Ke (Bl O7 (Al Ak (Al Ak (Al Ak (Aa 0) Ad) (Aa 1)) Ad) Ad (nomark _)) (Lr (Bl (Dl hr.units) (Al Ak (Al Ak (Al Ak (Aa 0) Ad) (Aa 2)) Ad) Ew (nomark _)))))) (Am (Bk Gb)) Bu) (Am (Bk (Aa 2)))))
theorem ZRC (T:Txt K mg t):FnOk P w K mg base CX0 3 t.Rj t.ZBD ["_law_house_here","_law_at"] (lF K ZBx):=by
 refine Bt T.ZBu ZEH λcdv A outer s H E hr=> ?_
 exact (Aj (An 2 ZEH.nd (Fx (Fd (Ac (Aa 1) Af)))) (Aj (Ed PassesOwn.never rfl (ZHG rfl T.Gs (Ac (Ag Ft (Aa 1) Ad) (Ac (Qs Uz Ad) (Ac (Qs Uz Ad) Af)))) (Bb 3 ZEH.nd) (Am (Br (Ib (R8 (Bl (Nt hr.units) (Al Ak (Al Ak (Al Ak (Aa 0) Ad) (Aa 3)) Ad) Ew (nomark _)) (Ra (Bl o_in (Aw (ZJg T) (hr.mono (by decide)) rfl T.Wr T.ZAO T.T3 pass0 (Ac (Aa 0) (Ac (Aa 3) Af))) (Aa 2) (by with_unfolding_all rfl))))) (Am (Ey (Hb PySem.F.slot_list_append PySem.F.type_list_append Hg (Aa 2) (Ac (Aa 3) Af)))) Bu))) (Am (Bk (Aa 2)))))
theorem ZPb (T:Txt K mg t):FnOk P w K mg base CX0 1 t.Qu t.Wq ["_law_house_here","_law_k","_law_at"] (lF K ZAl):=by
 refine Bt T.Vy ZCS λcdv A outer s H E hr=> ?_
 exact (Aj (An 3 ZCS.nd (Al Ak (Al Ak (Aa 0) Ad) (Aa 1))) (Aj (An 4 ZCS.nd (Al Ak (Al Ak (Aa 0) Ad) (Aa 2))) (Am (Bk (Pr (Jb (Dl hr.units) (Al Ak (Aa 3) Ad) Ew (nomark _)) (Nu (ZJK (Jb Jj (Al Ak (Aa 3) Ad) (Al Ak (Aa 4) Ad) (nomark _)) (Nu (Pr (Jb (Dl hr.units) (Al Ak (Aa 3) Ad) (Al Ak (Aa 4) Ad) (nomark _)) (Nu (Jb Jj (Aa 1) (Aa 2) (nomark _))))))))))))
theorem ZJ5 (T:Txt K mg t):FnOk P w K mg base CX0 4 t.Rt t.ZBo ["_law_house_here","_law_page_here","_law_at","_law_place"] (lF K ZB4):=by
 refine Bt T.ZAf Om λcdv A outer s H E hr=> ?_
 exact (Aj (An 4 Om.nd Ad) (Aj (Ed PassesOwn.never rfl (G9 (Df (Aw (ZRC T) (hr.mono (by decide)) rfl T.ZEg T.ZCU T.ZAg pass0 (Ac (Aa 0) (Ac (Aa 3) Af))))) (Bb 5 Om.nd) (Aj (An 4 Om.nd (Ag Ba (Aa 4) (Al Ak (Al Ak (Aa 1) (Aa 5)) Ad))) (Aj (Br (Bl (Nt hr.units) (Aa 5) (Aa 3) (nomark _)) (Am (An 4 Om.nd (Ag Ft (Aa 4) (Al Ak (Al Ak (Aa 1) (Aa 5)) Ad)))) Bu) (Am (Br (Io (Aw (ZPb T) (hr.mono (by decide)) rfl T.ZDR T.ZEm T.Zb pass0 (Ac (Aa 0) (Ac (Aa 5) (Ac (Aa 2) Af))))) (Am (An 4 Om.nd (Ag Ft (Aa 4) (Al Ak (Al Ak (Aa 1) (Aa 5)) Ad)))) Bu))))) (Am (Bk (Aa 4)))))
theorem ZRq (T:Txt K mg t):FnOk P w K mg base CX0 1 t.Sw t.Y7 ["_law_steps_here"] (lF K Wk):=by
 refine Bt T.Zd Qp λcdv A outer s H E hr=> ?_
 exact (Aj (An 1 Qp.nd Ad) (Aj (Ed PassesOwn.never rfl (G9 (Aa 0)) (Hd rfl (Dg (Bb 2 Qp.nd) (Dg (Bb 3 Qp.nd) (Dg (Bb 4 Qp.nd) Hh)))) (Am (Br (Bl (Dl hr.units) (Aa 4) Ew (nomark _)) (Am (An 1 Qp.nd (Ag Ba (Aa 1) (Aa 3)))) Bu))) (Am (Bk (Aa 1)))))
theorem ZQA (T:Txt K mg t):FnOk P w K mg base CX0 1 t.R6 t.ZAq ["_law_cells","_law_unit_here","_law_pumps"] (lF K ZBO):=by
 refine Bt T.Yz Kr λcdv A outer s H E hr=> ?_
 exact (Aj (An 3 Kr.nd (Fx (Fd Af))) (Aj (An 4 Kr.nd Ad) (Aj (Ed PassesOwn.never rfl (Hz rfl T.Gs (Ac (Ag Bp (Al Ak (Aa 0) Ad) Ad) Af)) (Bb 5 Kr.nd) (Aj (An 4 Kr.nd (Ag Ba (Aa 4) (Ag Dq (Aa 1) (Ag Bp (Al Ak (Aa 0) (Ag Ba Ad (Aa 5))) Ad)))) (Aj (An 6 Kr.nd (Ag Ba Ad (Ag Dq (Aa 1) (Ag Bp (Ag Dm (Al Ak (Aa 0) (Ag Ba Ad (Aa 5))) Ad) Ad)))) (Aj (An 7 Kr.nd Ew) (Aj (Br (Ib (R8 (Io (Aa 2)) (Ra (Bl (Dl hr.units) (Ag Bp (Ag Dm (Al Ak (Aa 0) (Ag Ba Ad (Aa 5))) Ad) Ad) Ad (nomark _))))) (Am (An 7 Kr.nd Ew)) Bu) (Aj (Ey (Hb PySem.F.slot_list_append PySem.F.type_list_append Hg (Aa 3) (Ac (Fe (Ac (Aa 4) (Ac (Aa 6) (Ac (Aa 7) Af)))) Af))) (Am (An 4 Kr.nd (Ag Ba (Aa 4) (Aa 6)))))))))) (Am (Bk (Hf Iu rfl T.Hr Hq (Ac (Aa 3) Af)))))))
theorem ZJR (T:Txt K mg t):FnOk P w K mg base CX0 3 t.R3 t.Zy ["_law_script"] (lF K Jz):=by
 refine Bt T.Xz ZIL λcdv A outer s H E hr=> ?_
 exact (Aj (An 1 ZIL.nd (Aw (Ez T) (hr.mono (by decide)) rfl T.Ej T.Ep T.Ds pass0 (Ac (Aa 0) (Ac Ad Af)))) (Aj (Br (Bl (Dl hr.units) (Ag Bp (Ag Dm (Aa 1) Ad) Ad) Ad (nomark _)) (Am (Bk (Ag Ba Ad (Ag Bp (Ag Dm (Aa 1) Ad) Ad)))) Bu) (Am (Bk (Ag Ba Ad (Ag Bp (Aa 1) Ad))))))
theorem ZNZ (T:Txt K mg t):FnOk P w K mg base CX0 4 t.R0 t.ZA5 ["_law_script","_law_b","_law_unit_here","_law_pumps"] (lF K ZBj):=by
 refine Bt T.Vd Jk λcdv A outer s H E hr=> ?_
 exact (Aj (An 4 Jk.nd (Aw (ZJR T) (hr.mono (by decide)) rfl T.Vg T.W4 T.Oi pass0 (Ac (Aa 0) Af))) (Aj (An 5 Jk.nd (Fx (Fd Af))) (Aj (An 6 Jk.nd Ad) (Aj (Ed PassesOwn.never rfl (Hz rfl T.Gs (Ac Ad Af)) (Bb 7 Jk.nd) (Aj (An 8 Jk.nd (Ag Bp (Ag Dq (Ag Dq (Aw (Ez T) (hr.mono (by decide)) rfl T.Ej T.Ep T.Ds pass0 (Ac (Aa 0) (Ac (Ag Ba (Aa 1) Ad) Af))) Ad) (Ag Ba (Ag Dq (Aa 7) (Aa 7)) Ad)) Ad)) (Aj (Ox (Mj 9 rfl Jk.nd (Fy (dn:=(Av Rr).names) (N0:=ZCw) (N:= ["_law_k","_law_script","_law_b","_law_j"]) (nt:=1) (caps:= [0,1,7])) (Hz rfl T.Gs (Ac Ad Af)) (λC s₀ H₀ ex=>(Bb 0 (show (["_law_k","_law_script","_law_b","_law_j"]:List Str).Nodup by decide +kernel))) (Eo (by decide)) (λC s₀ H₀ ex=>Gu) (λC s₀ H₀ ex=>(Ag Dm (Aw (Ez T) (hr.mono (by decide)) rfl T.Ej T.Ep T.Ds pass0 (Ac (Aa 1) (Ac (Ag Ba (Ag Ba (Aa 2) Ad) (Ag Bp (Ag Ba (Ag Dq Ad (Aa 3)) (Aa 0)) Ad)) Af))) (Ag Ba Ad (Ag Dq Ad (Ag Dm (Aa 3) Ad))))))) (Aj (Br (Io (Aw (ZJb T) (hr.mono (by decide)) rfl T.ZA8 T.ZBk T.Qg pass0 (Ac (Aa 0) Af))) (Aj (An 8 Jk.nd (Ag Dm (Aw (Ez T) (hr.mono (by decide)) rfl T.Ej T.Ep T.Ds pass0 (Ac (Aa 0) (Ac (Ag Ba (Aa 1) Ad) Af))) (Al Ak (Df (Fd (Ac Ad (Ac Ad (Ac Ad (Ac Ad Af)))))) (Aa 7)))) (Am (Ox (Mj 9 rfl Jk.nd (Fy (dn:=(Av Rr).names) (N0:=ZCw) (N:= ["_law_k","_law_script","_law_b","_law_j"]) (nt:=1) (caps:= [0,1,7])) (Hz rfl T.Gs (Ac Ad Af)) (λC s₀ H₀ ex=>(Bb 0 (show (["_law_k","_law_script","_law_b","_law_j"]:List Str).Nodup by decide +kernel))) (Eo (by decide)) (λC s₀ H₀ ex=>Gu) (λC s₀ H₀ ex=>(Ag Dm (Aw (Ez T) (hr.mono (by decide)) rfl T.Ej T.Ep T.Ds pass0 (Ac (Aa 1) (Ac (Ag Ba (Ag Ba (Aa 2) Ad) (Aa 0)) Af))) (Al Ak (Df (Fd (Ac Ad (Ac Ad (Ac Ad (Ac Ad Af)))))) (Aa 3)))))))) Bu) (Am (Br (Ib (Ke (Bl (Dl hr.units) (Aa 7) Ad (nomark _)) (Lr (Ib (R8 (Bl (Dl hr.units) (Ag Bp (Aa 8) Ad) Ad (nomark _)) (Ra (Bl Jj (Ag Ba (Aa 6) Ad) (Aa 4) (nomark _)))))))) (Aj (Br (Bl O7 (Aa 7) Ad (nomark _)) (Am (An 6 Jk.nd (Ag Ba (Ag Ba (Aa 6) Ad) (Ag Bp (Ag Dm (Aa 8) Ad) (Ag Ft (Ag Ft (Aa 4) (Aa 6)) Ad))))) Bu) (Am (Ey (Hb PySem.F.slot_list_append PySem.F.type_list_append Hg (Aa 5) (Ac (Fe (Ac (Aa 6) (Ac (Aw (ZQA T) (hr.mono (by decide)) rfl T.ZCn T.ZCG T.ZBX pass0 (Ac (Aa 9) (Ac (Aa 2) (Ac (Aa 3) Af)))) Af))) Af))))) Bu)))))) (Am (Bk (Hf Iu rfl T.Hr Hq (Ac (Aa 5) Af))))))))
theorem ZRG (T:Txt K mg t):FnOk P w K mg base CX0 5 t.U5 t.ZBA ["_law_script","_law_b","_law_k","_law_names","_law_river"] (lF K U0):=by
 refine Bt T.Yc Js λcdv A outer s H E hr=> ?_
 exact (Aj (An 5 Js.nd (Df (Aw (U4 T) (hr.mono (by decide)) rfl T.N8 T.Ni T.Jp pass0 (Ac (Aa 0) Af)))) (Aj (An 6 Js.nd (Aw (Ez T) (hr.mono (by decide)) rfl T.Ej T.Ep T.Ds pass0 (Ac (Aa 0) (Ac (Ag Ba (Aa 1) Ad) Af)))) (Aj (An 7 Js.nd (Pr (Jb O7 (Cu Ei rfl T.Eh El (Ac (Aa 3) Af)) Ad (nomark _)) (Nu (Jb (Dl hr.units) (Ag Bp (Aa 6) Ad) Ad (nomark _))))) (Aj (An 8 Js.nd (Aw (ZNZ T) (hr.mono (by decide)) rfl T.ZD6 T.ZDQ T.ZAn pass0 (Ac (Aa 0) (Ac (Aa 1) (Ac (Aa 5) (Ac (Aa 7) Af)))))) (Aj (An 9 Js.nd Gb) (Aj (Br (Io (Aa 7)) (Aj (An 10 Js.nd (Ag Ba (Cu (ZRs rfl) rfl T.ZIS ZJY (Ac (Df (Jl rfl (Fy (dn:=(Av Zu).names) (N0:=ZJd) (N:= ["_law_season"]) (nt:=1) (caps:= [])) (G9 (Aa 8)) (λC s₀ H₀ ex=>(Bb 0 (show (["_law_season"]:List Str).Nodup by decide +kernel))) (Eo (by decide)) (λC s₀ H₀ ex=>Gu) (λC s₀ H₀ ex=>(Aw (ZRq T) (hr.mono (by decide)) rfl T.ZB8 T.ZDh T.ZBR pass0 (Ac (Al Ak (Aa 0) Ad) Af))))) Af)) (Ag Dq (Aa 5) (Ag Bp (Ag Dm (Aa 6) Ad) Ad)))) (Aj (An 11 Js.nd (Al Ak (Aa 3) (Ag Bp (Ag Ba (Ag Ba (Aa 2) Ad) (Ag Bp (Ag Dm (Aa 6) Ad) (Ag Ft (Cu Ei rfl T.Eh El (Ac (Aa 3) Af)) Ad))) (Cu Ei rfl T.Eh El (Ac (Aa 3) Af))))) (Am (An 9 Js.nd (Fe (Ac (Aa 11) (Ac (Ag Ba Ad (Ag Bp (Ag Dm (Aa 6) Ad) Ad)) (Ac (Aa 10) Af)))))))) Bu) (Aj (An 12 Js.nd (Aw (ZAE T) (hr.mono (by decide)) rfl T.Pk T.Pj T.Ng pass0 (Ac (Aw (Ez T) (hr.mono (by decide)) rfl T.Ej T.Ep T.Ds pass0 (Ac (Aa 0) (Ac (Ag Ba (Aa 1) Ad) Af))) (Ac (Aa 5) Af)))) (Am (Bk (Fe (Ac Ew (Ac (Al Ak (Aa 3) (Aa 2)) (Ac (Al Ak (Aa 4) Ad) (Ac (Al Ak (Aa 4) Ad) (Ac (Aa 12) (Ac (Aa 8) (Ac (Aa 9) Af)))))))))))))))))
theorem ZQR (T:Txt K mg t):FnOk P w K mg base CX0 1 t.Qz t.ZAj ["_law_cell","_law_k","_law_many"] (lF K Z8):=by
 refine Bt T.Xp ZEA λcdv A outer s H E hr=> ?_
 exact (Aj (An 3 ZEA.nd (Al Ak Ew (Ag Bp (Ag Dm (Aa 0) Ad) Ad))) (Aj (Br (Ib (R8 (Bl (Dl hr.units) (Ag Bp (Aa 0) Ad) Ad (nomark _)) (Ra (Bl Jj (Aa 2) Ad (nomark _))))) (Am (Bk (Ag Dq (Aa 3) (Ag Ba (Aa 1) Ad)))) Bu) (Aj (An 4 ZEA.nd (Al Ak Ew (Ag Bp (Ag Ba (Ag Dq Ad (Aa 1)) (Ag Dm (Aa 0) Ad)) Ad))) (Aj (Br (Bl (Dl hr.units) (Ag Bp (Aa 0) Ad) Ad (nomark _)) (Am (Bk (Ag Ba (Aa 4) (Ag Dq (Aa 3) (Ag Bp (Ag Dm (Aa 0) Ad) Ad))))) Bu) (Am (Bk (Ag Ba (Ag Ba (Ag Dq (Aa 3) (Ag Bp (Ag Dm (Aa 0) Ad) Ad)) (Aa 4)) (Ag Dq (Aa 3) (Ag Ft Ad (Ag Bp (Ag Dm (Aa 0) Ad) Ad))))))))))
theorem ZR4 (T:Txt K mg t):FnOk P w K mg base CX0 6 t.Rc t.Yn ["_law_script"] (lF K Vl):=by
 refine Bt T.Zo G8 λcdv A outer s H E hr=> ?_
 exact (Aj (An 1 G8.nd (Aw (Ez T) (hr.mono (by decide)) rfl T.Ej T.Ep T.Ds pass0 (Ac (Aa 0) (Ac Ad Af)))) (Aj (An 2 G8.nd (Ag Ba (Ag Ba Ad (Ag Bp (Aa 1) Ad)) (Hf ZJi rfl T.ZCc ZEb (Ac (Aw (Ue T) (hr.mono (by decide)) rfl T.Mp T.Nx T.Km pass0 (Ac (Aa 0) Af)) Af)))) (Aj (Br (Bl (Dl hr.units) (Ag Bp (Ag Dm (Aa 1) Ad) Ad) Ad (nomark _)) (Am (An 2 G8.nd (Ag Ba Ad (Ag Bp (Ag Dm (Aa 1) Ad) Ad)))) Bu) (Aj (Ox (Mj 3 rfl G8.nd (Fy (dn:=(Av Y0).names) (N0:=ZGx) (N:= ["_law_k","_law_script","_law_many"]) (nt:=1) (caps:= [0,2])) (Hz rfl T.Gs (Ac (Aa 2) Af)) (λC s₀ H₀ ex=>(Bb 0 (show (["_law_k","_law_script","_law_many"]:List Str).Nodup by decide +kernel))) (Eo (by decide)) (λC s₀ H₀ ex=>Gu) (λC s₀ H₀ ex=>(Aw (ZQR T) (hr.mono (by decide)) rfl T.ZFR T.ZEl T.ZBy pass0 (Ac (Aw (Ez T) (hr.mono (by decide)) rfl T.Ej T.Ep T.Ds pass0 (Ac (Aa 1) (Ac Ad Af))) (Ac (Aa 0) (Ac (Aa 2) Af))))))) (Aj (An 5 G8.nd (Fx (Fd Af))) (Aj (Ed PassesOwn.never rfl (Hz rfl T.Gs (Ac (Aa 2) Af)) (Bb 4 G8.nd) (Aj (An 6 G8.nd (Ag Ba Ad (Ag Dq Ad (Aa 4)))) (Aj (An 7 G8.nd (Ag Bp (Aw (Ez T) (hr.mono (by decide)) rfl T.Ej T.Ep T.Ds pass0 (Ac (Aa 0) (Ac (Ag Ba (Aa 6) Ad) Af))) (Ag Ft (Aa 2) (Aa 4)))) (Aj (Br (Ib (Ke (Bl (Dl hr.units) (Ag Bp (Ag Dm (Aa 1) Ad) Ad) Ad (nomark _)) (Lr (Io (Aw (Ue T) (hr.mono (by decide)) rfl T.Mp T.Nx T.Km pass0 (Ac (Aa 0) Af)))))) (Am (An 7 G8.nd (Cu (Us rfl) rfl T.Oh Ow (Ac Ad (Ac (Ag Ft (Ag Ft (Aa 2) Ad) (Aa 4)) Af))))) Bu) (Aj (An 8 G8.nd (Aw (Ez T) (hr.mono (by decide)) rfl T.Ej T.Ep T.Ds pass0 (Ac (Aa 0) (Ac (Ag Ba (Aa 6) Ad) Af)))) (Aj (An 9 G8.nd (Fe (Ac Ew (Ac (Ag Dq (Ag Bp (Aa 8) Ad) (Ag Bp (Ag Dm (Aa 8) Ad) Ad)) Af)))) (Aj (Br (Bl O7 (Aa 7) Ad (nomark _)) (Am (An 9 G8.nd (Fe (Ac (Al Ak (Aa 3) (Ag Ba (Aa 4) (Aa 7))) (Ac (Al Ak (Aa 9) Ad) Af))))) Bu) (Aj (An 10 G8.nd (Ag Bp (Aw (Ez T) (hr.mono (by decide)) rfl T.Ej T.Ep T.Ds pass0 (Ac (Aa 0) (Ac (Aa 6) Af))) Ad)) (Aj (Br (Io (Aw (Ue T) (hr.mono (by decide)) rfl T.Mp T.Nx T.Km pass0 (Ac (Aa 0) Af))) (Am (An 10 G8.nd (Al Ak (Df (Fd (Ac Ad (Ac Ad (Ac Ad (Ac Ad (Ac Ad Af))))))) (Aa 10)))) Bu) (Aj (An 11 G8.nd (Aw (ZAE T) (hr.mono (by decide)) rfl T.Pk T.Pj T.Ng pass0 (Ac (Aw (Ez T) (hr.mono (by decide)) rfl T.Ej T.Ep T.Ds pass0 (Ac (Aa 0) (Ac (Ag Ba (Aa 6) Ad) Af))) (Ac (Df (Aw (U4 T) (hr.mono (by decide)) rfl T.N8 T.Ni T.Jp pass0 (Ac (Aa 0) Af))) Af)))) (Aj (An 12 G8.nd (Ag Bp (Aw (Ez T) (hr.mono (by decide)) rfl T.Ej T.Ep T.Ds pass0 (Ac (Aa 0) (Ac (Ag Ba (Aa 6) Ad) Af))) (Al Ak (Df (Fd (Ac Ad (Ac (Ag Mm Ad Ad) Af)))) (Ag Dq (Ag Bp (Ag Dm (Aa 1) Ad) Ad) (Hf ZJi rfl T.ZCc ZEb (Ac (ZJm (Aw (Ue T) (hr.mono (by decide)) rfl T.Mp T.Nx T.Km pass0 (Ac (Aa 0) Af))) Af)))))) (Am (Br (Bl Jj (Aa 10) Ad (nomark _)) (Am (Ey (Hb PySem.F.slot_list_append PySem.F.type_list_append Hg (Aa 5) (Ac (Df (Aw (ZRG T) (hr.mono (by decide)) rfl T.ZDx T.ZC9 T.Uh pass0 (Ac (Aa 0) (Ac (Aa 6) (Ac (Aa 4) (Ac (Aa 3) (Ac (Aa 9) Af))))))) Af)))) (Am (Br (Bl Jj (Aa 10) Ad (nomark _)) (Am (Ey (Hb PySem.F.slot_list_append PySem.F.type_list_append Hg (Aa 5) (Ac (Fe (Ac Ew (Ac (Al Ak (Aa 3) (Aa 4)) (Ac (Al Ak (Aa 9) Ad) (Ac (Al Ak (Aa 9) Ad) (Ac (Aa 11) (Ac (Aa 12) Af))))))) Af)))) (Am (Ey (Hb PySem.F.slot_list_append PySem.F.type_list_append Hg (Aa 5) (Ac (Fe (Ac Ew (Ac (Al Ak (Aa 3) (Aa 4)) (Ac (Al Ak (Aa 9) Ad) (Ac (Al Ak (Aa 9) Ad) (Ac (Aa 11) Af)))))) Af))))))))))))))))))) (Am (Bk (Fe (Ac (Aw (ZJR T) (hr.mono (by decide)) rfl T.Vg T.W4 T.Oi pass0 (Ac (Aa 0) Af)) (Ac (Hf Iu rfl T.Hr Hq (Ac (Aa 5) Af)) Af)))))))))))
theorem ZMP (T:Txt K mg t):FnOk P w K mg base CX0 1 t.T9 t.Yr ["_law_place"] (lF K W8):=by
 refine Bt T.Ye ZRR λcdv A outer s H E hr=> ?_
 exact (Aj (Br (Bl (Dl hr.units) (Al Ak (Aa 0) Ad) Ew (nomark _)) (Am (Bk (Al Ak (Aa 0) Ad))) Bu) (Am (Bk Ad)))
theorem ZLn (T:Txt K mg t):FnOk P w K mg base CX0 3 t.Te t.Za ["_law_script"] (lF K Sh):=by
 refine Bt T.ZA6 ZJS λcdv A outer s H E hr=> ?_
 exact (Aj (An 1 ZJS.nd (Aw (Ez T) (hr.mono (by decide)) rfl T.Ej T.Ep T.Ds pass0 (Ac (Aa 0) (Ac Ad Af)))) (Am (Bk (Ag Bp (Ag Dm (Aa 1) Ad) (Al Ak (Df (Fd (Ac Ad (Ac (Ag Mm Ad Ad) Af)))) (Ag Bp (Aa 1) Ad))))))
theorem ZSS (T:Txt K mg t):FnOk P w K mg base CX0 1 t.Rf t.Vz ["_law_number_here"] (lF K Uk):=by
 refine Bt T.Z4 ZP6 λcdv A outer s H E hr=> ?_
 exact (Am (Bk (Pr (Cu ZAa rfl T.ZAs ZB2 (Ac (Aa 0) (Ac (Zc rfl T.ZCc ZEb) Af))) (Pr (ZJm (Cu ZAa rfl T.ZAs ZB2 (Ac (Aa 0) (Ac (Zc rfl T.ZL1 ZKX) Af)))) (Nu (Jb o_ge (Aa 0) Ad (nomark _)))))))
theorem ZNX (T:Txt K mg t):FnOk P w K mg base CX0 2 t.Qq t.Xf ["_law_page_here","_law_many"] (lF K Y5):=by
 refine Bt T.ZAe ZH9 λcdv A outer s H E hr=> ?_
 exact (Aj (Br (Ib (Ke (ZBT (Io (Cu ZAa rfl T.ZAs ZB2 (Ac (Aa 0) (Ac (Zc rfl T.Hr Hq) Af))))) (Lr (Bl (Nt hr.units) (Cu Ei rfl T.Eh El (Ac (Aa 0) Af)) (Aa 1) (nomark _))))) (Am (Bk Oc)) Bu) (Aj (Ed PassesOwn.never rfl (G9 (Aa 0)) (Bb 2 ZH9.nd) (Aj (Br (Ib (Ke (ZBT (Io (Cu ZAa rfl T.ZAs ZB2 (Ac (Aa 2) (Ac (Zc rfl T.Hr Hq) Af))))) (Lr (Bl (Nt hr.units) (Cu Ei rfl T.Eh El (Ac (Aa 2) Af)) Ad (nomark _))))) (Am (Bk Oc)) Bu) (Am (Br (ZBT (Io (Cu (ZKM rfl) rfl T.ZNK ZMB (Ac (Df (Jl rfl (Fy (dn:=(Av ZBZ).names) (N0:=ZHa) (N:= ["_law_number_here"]) (nt:=1) (caps:= [])) (G9 (Aa 2)) (λC s₀ H₀ ex=>(Bb 0 (show (["_law_number_here"]:List Str).Nodup by decide +kernel))) (Eo (by decide)) (λC s₀ H₀ ex=>Gu) (λC s₀ H₀ ex=>(Aw (ZSS T) (hr.mono (by decide)) rfl T.ZCd T.ZFQ T.Zx pass0 (Ac (Aa 0) Af))))) Af)))) (Am (Bk Oc)) Bu)))) (Am (Bk Oc))))
theorem ZNL (T:Txt K mg t):FnOk P w K mg base CX0 4 t.V5 t.Y9 ["_law_script","_law_house_here"] (lF K Ys):=by
 refine Bt T.ZBe I9 λcdv A outer s H E hr=> ?_
 exact (Aj (An 2 I9.nd (Al Ak (Aa 1) Ad)) (Aj (An 3 I9.nd (Df (Aw (U4 T) (hr.mono (by decide)) rfl T.N8 T.Ni T.Jp pass0 (Ac (Aa 0) Af)))) (Aj (An 4 I9.nd (Ag Ba Ad (Ag Dq Ad (Cu Ei rfl T.Eh El (Ac (Aa 2) Af))))) (Aj (An 5 I9.nd (Fx (Fd Af))) (Aj (An 6 I9.nd (Fx (Fd Af))) (Aj (Ed PassesOwn.never rfl (Hz rfl T.Gs (Ac (Cu Ei rfl T.Eh El (Ac (Aa 2) Af)) Af)) (Bb 7 I9.nd) (Aj (An 8 I9.nd Ad) (Aj (Br (Bl (Dl hr.units) (Al Ak (Al Ak (Aa 2) (Aa 7)) Ad) Ew (nomark _)) (Am (An 8 I9.nd (Ag Bp (Aw (ZAE T) (hr.mono (by decide)) rfl T.Pk T.Pj T.Ng pass0 (Ac (Aw (Ez T) (hr.mono (by decide)) rfl T.Ej T.Ep T.Ds pass0 (Ac (Aa 0) (Ac (Ag Ba (Aa 4) (Aa 7)) Af))) (Ac (Aa 3) Af))) (Ag Ba (Al Ak (Al Ak (Aa 2) (Aa 7)) Ad) Ad)))) Bu) (Aj (Ey (Hb PySem.F.slot_list_append PySem.F.type_list_append Hg (Aa 5) (Ac (Aa 8) Af))) (Aj (An 9 I9.nd (Aw (Ez T) (hr.mono (by decide)) rfl T.Ej T.Ep T.Ds pass0 (Ac (Aa 0) (Ac (Ag Ba (Ag Ba (Aa 4) (Cu Ei rfl T.Eh El (Ac (Aa 2) Af))) (Aa 7)) Af)))) (Aj (An 10 I9.nd (Fx (Fd Af))) (Aj (Ed PassesOwn.never rfl (Hz rfl T.Gs (Ac Ad Af)) (Bb 11 I9.nd) (Aj (Ey (Hb PySem.F.slot_list_append PySem.F.type_list_append Hg (Aa 10) (Ac (Ag Dq (Aa 3) (Ag Bp (Aa 9) Ad)) Af))) (Am (An 9 I9.nd (Ag Dm (Aa 9) Ad))))) (Am (Ey (Hb PySem.F.slot_list_append PySem.F.type_list_append Hg (Aa 6) (Ac (Hf Iu rfl T.Hr Hq (Ac (Aa 10) Af)) Af))))))))))) (Am (Bk (Fe (Ac (Hf Iu rfl T.Hr Hq (Ac (Aa 5) Af)) (Ac (Hf Iu rfl T.Hr Hq (Ac (Aa 6) Af)) Af)))))))))))
theorem ZOh (T:Txt K mg t):FnOk P w K mg base CX0 1 t.R4 t.ZAy ["self","house","state","at","flood"] (lF K Th):=by
 refine Bt T.Ws ZCK λcdv A outer s H E hr=> ?_
 exact (Aj (Od (Aa 2) (Hd rfl (Dg (Bb 5 ZCK.nd) (Dg (Bb 6 ZCK.nd) Hh)))) (Aj (Nf T.Cv T.Cz T.Jr (Aa 0) (Aa 1)) (Aj (Nf T.Cv T.Cz T.Yl (Aa 0) (Aa 5)) (Aj (Nf T.Cv T.Cz T.Vq (Aa 0) (Ag Bp (Aa 3) (Al Ak (Aa 1) (Cr (v:=(.int 0)) rfl T.ZEd ⟨_,rfl⟩ (λ_ _=>rfl))))) (Aj (Nf T.Cv T.Cz T.Py (Aa 0) (Jl rfl (Fy (dn:=(Av Tq).names) (N0:=ZDF) (N:= ["cubes","ahead"]) (nt:=2) (caps:= [])) (ZGD rfl T.ZCE (Ac (Aa 4) (Ac (Aa 6) Af))) (λC s₀ H₀ ex=>(Hd rfl (Dg (Bb 0 (show (["cubes","ahead"]:List Str).Nodup by decide +kernel)) (Dg (Bb 1 (show (["cubes","ahead"]:List Str).Nodup by decide +kernel)) Hh)))) (Uc (Jo (Eo (by decide)) (Jo (Eo (by decide)) Rz))) (λC s₀ H₀ ex=>Gu) (λC s₀ H₀ ex=>(Ag Ba (Aa 0) (Al Ak (Aa 1) Ad))))) (Aj (Nf T.Cv T.Cz T.T4 (Aa 0) (Jl rfl (Fy (dn:=(Av Tq).names) (N0:=ZDF) (N:= ["ahead"]) (nt:=1) (caps:= [])) (G9 (Aa 6)) (λC s₀ H₀ ex=>(Bb 0 (show (["ahead"]:List Str).Nodup by decide +kernel))) (Eo (by decide)) (λC s₀ H₀ ex=>Gu) (λC s₀ H₀ ex=>(Fx (Ag Ba (Df (Hf (ZOb rfl) rfl T.ZH5 ZHD (Ac (Df (ZMd (Aa 0) (ZKl Ad) ZOj)) Af))) (Df (Fd (Ac Ad Af)))))))) (Aj (Nf T.Cv T.Cz T.Mx (Aa 0) (Fx (Ag ZJW (Fd (Ac Gb Af)) (Cu Ei rfl T.Eh El (Ac (Aa 5) Af))))) (Am (Nf T.Cv T.Cz T.Wo (Aa 0) (Fx (Fd Af)))))))))))
theorem ZF2 (T:Txt K mg t):FnOk P w K mg base CX0 1 t.Yx t.ZBP ["self","to","delay","cubes"] (lF K Ul):=by
 refine Bt T.Vm ZQJ λcdv A outer s H E hr=> ?_
 exact (Am (Br (Bl (Dl hr.units) (Aa 2) Ad (nomark _)) (Am (Xo (Fj T.Cv T.Cz T.Py (Aa 0)) (Aa 1) (Aa 3) Ut)) (Am (Xo (Al Ak (Fj T.Cv T.Cz T.T4 (Aa 0)) (Aa 1)) (Ag Ft (Aa 2) Ad) (Aa 3) Ut))))
theorem ZJu (T:Txt K mg t):FnOk P w K mg base CX0 1 t.Tt t.ZAc ["house","name"] (lF K Qt):=by
 refine Bt T.ZAN ZCt λcdv A outer s H E hr=> ?_
 exact (Aj (Ed PassesOwn.never rfl (Rn rfl T.Uq (Ac (Al Ak (Aa 0) (Cr (v:=(.int 1)) rfl T.J1 ⟨_,rfl⟩ (λ_ _=>rfl))) Af)) (Hd rfl (Dg (Bb 2 ZCt.nd) (Dg (Bb 3 ZCt.nd) Hh))) (Am (Br (Bl (Dl hr.units) (Al Ak (Aa 3) (Cr (v:=(.int 1)) rfl T.ZD4 ⟨_,rfl⟩ (λ_ _=>rfl))) (Aa 1) (nomark _)) (Am (Bk (Aa 2))) Bu))) (Am ZNc))
theorem ZFj (T:Txt K mg t):FnOk P w K mg base CX0 2 t.V2 t.Zt ["house","place"] (lF K Tv):=by
 refine Bt T.Yw ZI2 λcdv A outer s H E hr=> ?_
 exact (Aj (An 2 ZI2.nd (Al Ak (Al Ak (Al Ak (Aa 0) (Cr (v:=(.int 1)) rfl T.J1 ⟨_,rfl⟩ (λ_ _=>rfl))) (Aa 1)) (Cr (v:=(.int 2)) rfl T.ZEf ⟨_,rfl⟩ (λ_ _=>rfl)))) (Aj (Br (Bl (Dl hr.units) (Aa 2) (Cr (v:=(.str "sea")) rfl T.ZCH ⟨_,rfl⟩ (λ_ _=>rfl)) (nomark _)) (Am (Bk Gb)) Bu) (Am (Bk (Aw (ZJu T) (hr.mono (by decide)) rfl T.Yg T.ZBc T.Qy pass0 (Ac (Aa 0) (Ac (Aa 2) Af)))))))
theorem ZH8 (T:Txt K mg t):FnOk P w K mg base CX0 3 t.ZBM t.ZB3 ["self","number","cubes"] (lF K T5):=by
 refine Bt T.ZA0 ZGh λcdv A outer s H E hr=> ?_
 exact (Aj (An 3 ZGh.nd (Aw (ZFj T) (hr.mono (by decide)) rfl T.Xh T.ZBG T.Uy pass0 (Ac (Fj T.Cv T.Cz T.Jr (Aa 0)) (Ac (Aa 1) Af)))) (Am (Br (Bl P0 (Aa 3) Gb (nomark _)) (Am (Ey (Pb T.Cv T.Cz T.ZGw (ZF2 T) (hr.mono (by decide)) T.Tu pass0 (Aa 0) (Ac (Aa 3) (Ac (Al Ak (Al Ak (Al Ak (Fj T.Cv T.Cz T.Jr (Aa 0)) (Cr (v:=(.int 1)) rfl T.J1 ⟨_,rfl⟩ (λ_ _=>rfl))) (Aa 1)) (Cr (v:=(.int 3)) rfl T.ZAh ⟨_,rfl⟩ (λ_ _=>rfl))) (Ac (Aa 2) Af)))))) Bu)))
theorem ZMA (T:Txt K mg t):FnOk P w K mg base CX0 1 t.Ub t.ZAm ["stairs","water"] (lF K ZAb):=by
 refine Bt T.Zn K6 λcdv A outer s H E hr=> ?_
 exact (Aj (An 2 K6.nd Ad) (Aj (An 3 K6.nd Ad) (Aj (Ed PassesOwn.never rfl (G9 (Aa 0)) (Hd rfl (Dg (Bb 4 K6.nd) (Dg (Bb 5 K6.nd) (Dg (Bb 6 K6.nd) Hh)))) (Aj (An 7 K6.nd (Cu (ZKb rfl) rfl T.ZIS ZJY (Ac Ad (Ac (Cu (Us rfl) rfl T.Oh Ow (Ac (Aa 5) (Ac (Ag Ft (Aa 1) (Aa 4)) Af))) Af)))) (Am (Br (Bl (Dl hr.units) (Aa 6) Ew (nomark _)) (Am (ZIh 2 K6.nd (Aa 7) Ut)) (Am (ZIh 3 K6.nd (Aa 7) Ut)))))) (Am (Bk (Fe (Ac (Aa 2) (Ac (Aa 3) (Ac (Ag Ft (Ag Ft (Aa 1) (Aa 2)) (Aa 3)) Af)))))))))
theorem ZPf (T:Txt K mg t):FnOk P w K mg base CX0 1 t.Rh t.Xq ["rule","turn"] (lF K ZAD):=by
 refine Bt T.ZAC Ur λcdv A outer s H E hr=> ?_
 exact (Aj (An 2 Ur.nd (Fe Af)) (Aj (Ed PassesOwn.never rfl (G9 (Aa 0)) (Hd rfl (Dg (Bb 3 Ur.nd) (Dg (Bb 4 Ur.nd) Hh))) (Am (Br (Bl o_le (Aa 3) (Aa 1) (nomark _)) (Am (An 2 Ur.nd (Aa 4))) Bu))) (Am (Bk (Aa 2)))))
theorem ZP5 (T:Txt K mg t):FnOk P w K mg base CX0 4 t.ZBN t.ZBp ["self","number"] (lF K Vs):=by
 refine Bt T.Zm Lx λcdv A outer s H E hr=> ?_
 exact (Aj (An 2 Lx.nd (Al Ak (Al Ak (Fj T.Cv T.Cz T.Jr (Aa 0)) (Cr (v:=(.int 1)) rfl T.J1 ⟨_,rfl⟩ (λ_ _=>rfl))) (Aa 1))) (Aj (An 3 Lx.nd (Al Ak (Fj T.Cv T.Cz T.Py (Aa 0)) (Aa 1))) (Aj (Od (Aw (ZMA T) (hr.mono (by decide)) rfl T.ZFN T.ZCD T.Vv pass0 (Ac (Aw (ZPf T) (hr.mono (by decide)) rfl T.ZC6 T.ZCX T.W2 pass0 (Ac (Al Ak (Aa 2) (Cr (v:=(.int 5)) rfl T.ZFA ⟨_,rfl⟩ (λ_ _=>rfl))) (Ac (Fj T.Cv T.Cz T.Vq (Aa 0)) Af))) (Ac (Ag Ba (Al Ak (Fj T.Cv T.Cz T.Yl (Aa 0)) (Aa 1)) (Aa 3)) Af))) (Hd rfl (Dg (Bb 4 Lx.nd) (Dg (Bb 5 Lx.nd) (Dg (Bb 6 Lx.nd) Hh))))) (Aj (An 7 Lx.nd (Cu (Us rfl) rfl T.Oh Ow (Ac (Aa 6) (Ac (Al Ak (Aa 2) (Cr (v:=(.int 4)) rfl T.ZDW ⟨_,rfl⟩ (λ_ _=>rfl))) Af)))) (Aj (An 8 Lx.nd (Ag Ft (Aa 6) (Aa 7))) (Aj (Od (Fe (Ac (Aa 3) (Ac Ad (Ac (Aa 8) (Ac (Aa 4) (Ac (Aa 5) (Ac (Aa 7) Af))))))) (Z9 (Fj T.Cv T.Cz T.Mx (Aa 0)) (Aa 1))) (Aj (Ey (Pb T.Cv T.Cz T.ZGz (ZH8 T) (hr.mono (by decide)) T.Sg pass0 (Aa 0) (Ac (Aa 1) (Ac (Ag Ba (Aa 4) (Aa 8)) Af)))) (Am (Br (Bl P0 (Al Ak (Aa 2) (Cr (v:=(.int 6)) rfl T.Ug ⟨_,rfl⟩ (λ_ _=>rfl))) Gb (nomark _)) (Am (Ey (Pb T.Cv T.Cz T.ZGw (ZF2 T) (hr.mono (by decide)) T.Tu pass0 (Aa 0) (Ac (Aw (ZJu T) (hr.mono (by decide)) rfl T.Yg T.ZBc T.Qy pass0 (Ac (Fj T.Cv T.Cz T.Jr (Aa 0)) (Ac (Al Ak (Al Ak (Aa 2) (Cr (v:=(.int 6)) rfl T.Ug ⟨_,rfl⟩ (λ_ _=>rfl))) (Cr (v:=(.int 0)) rfl T.ZDU ⟨_,rfl⟩ (λ_ _=>rfl))) Af))) (Ac (Al Ak (Al Ak (Aa 2) (Cr (v:=(.int 6)) rfl T.Ug ⟨_,rfl⟩ (λ_ _=>rfl))) (Cr (v:=(.int 1)) rfl T.ZDM ⟨_,rfl⟩ (λ_ _=>rfl))) (Ac (Aa 5) Af)))))) Bu)))))))))
theorem ZHu (T:Txt K mg t):FnOk P w K mg base CX0 1 t.Tn t.Xw ["rows","takes"] (lF K Q0):=by
 refine Bt T.ZAo ZAY λcdv A outer s H E hr=> ?_
 exact (Aj (Mj 2 rfl ZAY.nd (Fy (dn:=(Av Z2).names) (N0:=ZHx) (N:= ["row","take"]) (nt:=2) (caps:= [])) (ZGD rfl T.ZCE (Ac (Aa 0) (Ac (Aa 1) Af))) (λC s₀ H₀ ex=>(Hd rfl (Dg (Bb 0 (show (["row","take"]:List Str).Nodup by decide +kernel)) (Dg (Bb 1 (show (["row","take"]:List Str).Nodup by decide +kernel)) Hh)))) (Uc (Jo (Eo (by decide)) (Jo (Eo (by decide)) Rz))) (λC s₀ H₀ ex=>Gu) (λC s₀ H₀ ex=>(Ag Ft (Al Ak (Aa 0) (Cr (v:=(.int 1)) rfl T.ZEt ⟨_,rfl⟩ (λ_ _=>rfl))) (Aa 1)))) (Aj (Ed PassesOwn.never rfl (Rn rfl T.Uq (Ac (Aa 0) Af)) (Hd rfl (Dg (Bb 4 ZAY.nd) (Dg (Bb 3 ZAY.nd) Hh))) (Am (Br (Bl P0 (Al Ak (Aa 3) (Cr (v:=(.int 0)) rfl T.Qj ⟨_,rfl⟩ (λ_ _=>rfl))) Gb (nomark _)) (Am (Xo (Aa 2) (Al Ak (Aa 3) (Cr (v:=(.int 0)) rfl T.Qj ⟨_,rfl⟩ (λ_ _=>rfl))) (Al Ak (Aa 2) (Aa 4)) Ut)) Bu))) (Am (Bk (Aa 2)))))
theorem ZGt (T:Txt K mg t):FnOk P w K mg base CX0 3 t.Sq t.ZAi ["house","number"] (lF K Rm):=by
 refine Bt T.Ww ZCJ λcdv A outer s H E hr=> ?_
 exact (Aj (An 2 ZCJ.nd (Al Ak (Aa 0) (Cr (v:=(.int 1)) rfl T.J1 ⟨_,rfl⟩ (λ_ _=>rfl)))) (Aj (An 3 ZCJ.nd (Aw (ZFj T) (hr.mono (by decide)) rfl T.Xh T.ZBG T.Uy pass0 (Ac (Aa 0) (Ac (Aa 1) Af)))) (Aj (Br (Ib (Ke (Bl ZDZ (Aa 3) Gb (nomark _)) (Lr (Bl O7 (Al Ak (Al Ak (Aa 2) (Aa 1)) (Cr (v:=(.int 3)) rfl T.ZAh ⟨_,rfl⟩ (λ_ _=>rfl))) Ad (nomark _))))) (Am (Bk Gb)) Bu) (Aj (Br (Ib (Ke (Bl (Dl hr.units) (Al Ak (Al Ak (Aa 2) (Aa 1)) (Cr (v:=(.int 0)) rfl T.Qh ⟨_,rfl⟩ (λ_ _=>rfl))) Ew (nomark _)) (Lr (Bl (Dl hr.units) (Al Ak (Al Ak (Aa 2) (Aa 3)) (Cr (v:=(.int 0)) rfl T.Qh ⟨_,rfl⟩ (λ_ _=>rfl))) Ew (nomark _))))) (Am (Bk Gb)) Bu) (Am (Bk (Aa 3)))))))
theorem ZQi (T:Txt K mg t):FnOk P w K mg base CX0 4 t.U3 t.V8 ["house","members","came"] (lF K Y8):=by
 refine Bt T.X4 Oz λcdv A outer s H E hr=> ?_
 exact (Aj (An 3 Oz.nd (Fx (Fd Af))) (Aj (Ed PassesOwn.never rfl (G9 (Aa 1)) (Bb 4 Oz.nd) (Aj (An 5 Oz.nd (Al Ak (Al Ak (Aa 0) (Cr (v:=(.int 1)) rfl T.J1 ⟨_,rfl⟩ (λ_ _=>rfl))) (Aa 4))) (Aj (An 6 Oz.nd (Aw (ZGt T) (hr.mono (by decide)) rfl T.Xg T.ZBl T.Um pass0 (Ac (Aa 0) (Ac (Aa 4) Af)))) (Aj (An 7 Oz.nd (ZPy (Bl ZDZ (Aa 6) Gb (nomark _)) Gb (Hb PySem.F.slot_list_index PySem.F.type_list_index ZMp (Aa 1) (Ac (Aa 6) Af)))) (Am (Br (Bl (Dl hr.units) (Al Ak (Aa 5) (Cr (v:=(.int 0)) rfl T.Qh ⟨_,rfl⟩ (λ_ _=>rfl))) Ew (nomark _)) (Am (Ey (Hb PySem.F.slot_list_append PySem.F.type_list_append Hg (Aa 3) (Ac (Fe (Ac (Aa 7) (Ac (Al Ak (Aa 2) (Aa 4)) (Ac (Al Ak (Aa 5) (Cr (v:=(.int 4)) rfl T.ZDb ⟨_,rfl⟩ (λ_ _=>rfl))) (Ac (Al Ak (Aa 5) (Cr (v:=(.int 5)) rfl T.ZEY ⟨_,rfl⟩ (λ_ _=>rfl))) Af))))) Af)))) (Am (Ey (Hb PySem.F.slot_list_append PySem.F.type_list_append Hg (Aa 3) (Ac (Fe (Ac (Aa 7) (Ac (Al Ak (Aa 2) (Aa 4)) (Ac Ad (Ac Ad Af))))) Af)))))))))) (Am (Bk (Aa 3)))))
theorem ZJ7 (T:Txt K mg t):FnOk P w K mg base CX0 1 t.Qw t.ZBS ["rows"] (lF K ZBU):=by
 refine Bt T.ZAd ZG7 λcdv A outer s H E hr=> ?_
 exact (Aj (An 1 ZG7.nd (Df (Cu ZSW rfl T.ZR1 ZLe (Ac (Df (Jl rfl (Fy (dn:=(Av T6).names) (N0:=ZCk) (N:= ["number","row"]) (nt:=2) (caps:= [])) (Rn rfl T.Uq (Ac (Aa 0) Af)) (λC s₀ H₀ ex=>(Hd rfl (Dg (Bb 0 (show (["number","row"]:List Str).Nodup by decide +kernel)) (Dg (Bb 1 (show (["number","row"]:List Str).Nodup by decide +kernel)) Hh)))) (Uc (Jo (Eo (by decide)) (Jo (Eo (by decide)) Rz))) (λC s₀ H₀ ex=>Gu) (λC s₀ H₀ ex=>(Fe (Ac (Al Ak (Aa 1) (Cr (v:=(.int 3)) rfl T.ZEz ⟨_,rfl⟩ (λ_ _=>rfl))) (Ac (Aa 0) Af)))))) Af)))) (Am (Bk (Jl rfl (Fy (dn:=(Av T6).names) (N0:=ZCk) (N:= ["rank","number"]) (nt:=2) (caps:= [])) (G9 (Aa 1)) (λC s₀ H₀ ex=>(Hd rfl (Dg (Bb 0 (show (["rank","number"]:List Str).Nodup by decide +kernel)) (Dg (Bb 1 (show (["rank","number"]:List Str).Nodup by decide +kernel)) Hh)))) (Uc (Jo (Eo (by decide)) (Jo (Eo (by decide)) Rz))) (λC s₀ H₀ ex=>Gu) (λC s₀ H₀ ex=>(Aa 1))))))
theorem ZQF (T:Txt K mg t):FnOk P w K mg base CX0 1 t.Ui t.Xk ["rows","number"] (lF K Xe):=by
 refine Bt T.Zr ZBq λcdv A outer s H E hr=> ?_
 exact (Aj (An 2 ZBq.nd (Fx (Fd (Ac (Aa 1) Af)))) (Aj (An 3 ZBq.nd (Al Ak (Al Ak (Aa 0) (Aa 1)) (Cr (v:=(.int 0)) rfl T.Qj ⟨_,rfl⟩ (λ_ _=>rfl)))) (Aj (ZJM fuel PassesOwn.never (Bl P0 (Aa 3) Gb (nomark _)) (Aj (Ey (Hb PySem.F.slot_list_append PySem.F.type_list_append Hg (Aa 2) (Ac (Aa 3) Af))) (Am (An 3 ZBq.nd (Al Ak (Al Ak (Aa 0) (Aa 3)) (Cr (v:=(.int 0)) rfl T.Qj ⟨_,rfl⟩ (λ_ _=>rfl))))))) (Am (Bk (Aa 2))))))
theorem ZPD (T:Txt K mg t):FnOk P w K mg base CX0 2 t.U6 t.ZBV ["rows"] (lF K Xi):=by
 refine Bt T.ZBF Nh λcdv A outer s H E hr=> ?_
 exact (Aj (An 1 Nh.nd (Fx (Ag ZJW (Fd (Ac Ad Af)) (Cu Ei rfl T.Eh El (Ac (Aa 0) Af))))) (Aj (An 2 Nh.nd (Fx (Aw (ZHu T) (hr.mono (by decide)) rfl T.ZBz T.ZBg T.S7 pass0 (Ac (Aa 0) (Ac (Aa 1) Af))))) (Aj (Ed PassesOwn.never rfl (G9 (Df (Aw (ZJ7 T) (hr.mono (by decide)) rfl T.ZE3 T.ZDu T.Xr pass0 (Ac (Aa 0) Af)))) (Bb 3 Nh.nd) (Aj (An 4 Nh.nd (Df (Aw (ZQF T) (hr.mono (by decide)) rfl T.ZE7 T.ZEn T.W7 pass0 (Ac (Aa 0) (Ac (Aa 3) Af))))) (Aj (An 5 Nh.nd (Cu (Us rfl) rfl T.Oh Ow (Ac (Al Ak (Al Ak (Aa 0) (Aa 3)) (Cr (v:=(.int 2)) rfl T.ZEZ ⟨_,rfl⟩ (λ_ _=>rfl))) (Ac (Cu (ZPH rfl) rfl T.Oh Ow (Ac (Df (Jl rfl (Fy (dn:=(Av ZB0).names) (N0:=ZHt) (N:= ["below","passing"]) (nt:=1) (caps:= [2])) (G9 (Aa 4)) (λC s₀ H₀ ex=>(Bb 0 (show (["below","passing"]:List Str).Nodup by decide +kernel))) (Eo (by decide)) (λC s₀ H₀ ex=>Gu) (λC s₀ H₀ ex=>(Al Ak (Aa 1) (Aa 0))))) Af)) Af)))) (Aj (Od (Aa 5) (Z9 (Aa 1) (Aa 3))) (Am (Ed PassesOwn.never rfl (G9 (Aa 4)) (Bb 6 Nh.nd) (Am (Xo (Aa 2) (Aa 6) (Aa 5) ZN1)))))))) (Am (Bk (Aa 1))))))
theorem ZKP (T:Txt K mg t):FnOk P w K mg base CX0 5 t.V6 t.ZAQ ["self","members"] (lF K ZBK):=by
 refine Bt T.Z3 Pz λcdv A outer s H E hr=> ?_
 exact (Aj (An 2 Pz.nd (Df (Aw (ZQi T) (hr.mono (by decide)) rfl T.ZDw T.ZFJ T.ZBL pass0 (Ac (Fj T.Cv T.Cz T.Jr (Aa 0)) (Ac (Aa 1) (Ac (Fj T.Cv T.Cz T.Py (Aa 0)) Af)))))) (Aj (An 3 Pz.nd (Df (Aw (ZPD T) (hr.mono (by decide)) rfl T.ZCr T.ZDd T.W6 pass0 (Ac (Aa 2) Af)))) (Aj (Ed PassesOwn.never rfl (ZPj rfl T.ZCE (Ac (Aa 1) (Ac (Aa 3) (Ac (Df (Aw (ZHu T) (hr.mono (by decide)) rfl T.ZBz T.ZBg T.S7 pass0 (Ac (Aa 2) (Ac (Aa 3) Af)))) Af)))) (Hd rfl (Dg (Bb 4 Pz.nd) (Dg (Bb 5 Pz.nd) (Dg (Bb 6 Pz.nd) Hh)))) (Aj (Od (Fe (Ac (Ag Ba (Aa 5) (Aa 6)) (Ac (Aa 5) (Ac Ad (Ac (Aa 6) (Ac Ad (Ac Ad Af))))))) (Z9 (Fj T.Cv T.Cz T.Mx (Aa 0)) (Aa 4))) (Am (Br (Bl (Dl hr.units) (Aa 4) (Al Ak (Aa 1) (Qs Uz Ad)) (nomark _)) (Am (Ey (Pb T.Cv T.Cz T.ZGz (ZH8 T) (hr.mono (by decide)) T.Sg pass0 (Aa 0) (Ac (Aa 4) (Ac (Aa 6) Af))))) Bu)))) (Am (Ey (Hb PySem.F.slot_list_append PySem.F.type_list_append Hg (Fj T.Cv T.Cz T.Wo (Aa 0)) (Ac (Fx (Fe (Ac (Aa 1) (Ac (Aa 2) Af)))) Af)))))))
theorem ZLa (T:Txt K mg t):FnOk P w K mg base CX0 4 t.Tw t.ZBs ["house"] (lF K Yj):=by
 refine Bt T.Wy Wt λcdv A outer s H E hr=> ?_
 exact (Aj (An 1 Wt.nd (Fx (ZLV rfl rfl T.ZH5 rfl T.Gs (Ac (Cu Ei rfl T.Eh El (Ac (Al Ak (Aa 0) (Cr (v:=(.int 1)) rfl T.J1 ⟨_,rfl⟩ (λ_ _=>rfl))) Af)) Af)))) (Aj (Ed PassesOwn.never rfl (ZHG rfl T.Gs (Ac (Ag Ft (Cu Ei rfl T.Eh El (Ac (Al Ak (Aa 0) (Cr (v:=(.int 1)) rfl T.J1 ⟨_,rfl⟩ (λ_ _=>rfl))) Af)) Ad) (Ac (Qs Uz Ad) (Ac (Qs Uz Ad) Af)))) (Bb 2 Wt.nd) (Aj (An 3 Wt.nd (Aw (ZGt T) (hr.mono (by decide)) rfl T.Xg T.ZBl T.Um pass0 (Ac (Aa 0) (Ac (Aa 2) Af)))) (Am (Br (Bl P0 (Aa 3) Gb (nomark _)) (Am (Od (Al Ak (Aa 1) (Aa 3)) (Z9 (Aa 1) (Aa 2)))) Bu)))) (Am (Bk (Aa 1)))))
theorem ZMJ (T:Txt K mg t):FnOk P w K mg base CX0 6 t.X5 t.V7 ["self"] (lF K ZBJ):=by
 refine Bt T.ZA2 Yk λcdv A outer s H E hr=> ?_
 exact (Aj (An 1 Yk.nd (Df (Aw (ZLa T) (hr.mono (by decide)) rfl T.ZDB T.ZCN T.Yv pass0 (Ac (Fj T.Cv T.Cz T.Jr (Aa 0)) Af)))) (Am (Ed PassesOwn.never rfl (Rn rfl T.Uq (Ac (Aa 1) Af)) (Hd rfl (Dg (Bb 2 Yk.nd) (Dg (Bb 3 Yk.nd) Hh))) (Am (Br (Bl (Dl hr.units) (Al Ak (Al Ak (Al Ak (Fj T.Cv T.Cz T.Jr (Aa 0)) (Cr (v:=(.int 1)) rfl T.J1 ⟨_,rfl⟩ (λ_ _=>rfl))) (Aa 2)) (Cr (v:=(.int 0)) rfl T.Qh ⟨_,rfl⟩ (λ_ _=>rfl))) Ew (nomark _)) (Am (Ey (Pb T.Cv T.Cz T.ZMU (ZP5 T) (hr.mono (by decide)) T.X6 pass0 (Aa 0) (Ac (Aa 2) Af)))) (Am (Br (Bl (Dl hr.units) (Aa 3) (Aa 2) (nomark _)) (Am (Ey (Pb T.Cv T.Cz T.ZPv (ZKP T) (hr.mono (by decide)) T.Z6 pass0 (Aa 0) (Ac (Df (Jl rfl (Fy (dn:=(Av Vp).names) (N0:=ZFf) (N:= ["member","end","number"]) (nt:=2) (caps:= [2])) (Rn rfl T.Uq (Ac (Aa 1) Af)) (λC s₀ H₀ ex=>(Hd rfl (Dg (Bb 0 (show (["member","end","number"]:List Str).Nodup by decide +kernel)) (Dg (Bb 1 (show (["member","end","number"]:List Str).Nodup by decide +kernel)) Hh)))) (Uc (Jo (Eo (by decide)) (Jo (Eo (by decide)) Rz))) (λC s₀ H₀ ex=>(ZNI (Bl (Dl hr.units) (Aa 1) (Aa 2) (nomark _)))) (λC s₀ H₀ ex=>(Aa 0)))) Af)))) Bu)))))))
theorem ZPu (T:Txt K mg t):FnOk P w K mg base CX0 1 t.Z5 t.Ze ["self"] (lF K ZAp):=by
 refine Bt T.ZAB ZOd λcdv A outer s H E hr=> ?_
 exact (Am (Bk (Fe (Ac (Hf Iu rfl T.Hr Hq (Ac (Df (Jl rfl (Fy (dn:=(Av Td).names) (N0:=ZD3) (N:= ["row"]) (nt:=1) (caps:= [])) (G9 (Fj T.Cv T.Cz T.Mx (Aa 0))) (λC s₀ H₀ ex=>(Bb 0 (show (["row"]:List Str).Nodup by decide +kernel))) (Eo (by decide)) (λC s₀ H₀ ex=>Gu) (λC s₀ H₀ ex=>(Al Ak (Aa 0) (Cr (v:=(.int 5)) rfl T.ZEc ⟨_,rfl⟩ (λ_ _=>rfl)))))) Af)) (Ac (Hf Iu rfl T.Hr Hq (Ac (Df (Jl rfl (Fy (dn:=(Av Td).names) (N0:=ZD3) (N:= ["ahead"]) (nt:=1) (caps:= [])) (G9 (Fj T.Cv T.Cz T.T4 (Aa 0))) (λC s₀ H₀ ex=>(Bb 0 (show (["ahead"]:List Str).Nodup by decide +kernel))) (Eo (by decide)) (λC s₀ H₀ ex=>Gu) (λC s₀ H₀ ex=>(Hf Iu rfl T.Hr Hq (Ac (Aa 0) Af))))) Af)) Af)))))
theorem ZRd (T:Txt K mg t):FnOk P w K mg base CX0 7 t.Uw t.Xd ["house","state","at","flood"] (lF K Zg):=by
 refine Bt T.ZBt ZFw λcdv A outer s H E hr=> ?_
 exact (Aj (An 4 ZFw.nd (ZOa T.Cv T.ZDH (ZOh T) (hr.mono (by decide)) rfl T.ZLf T.Yq pass0 (Ac (Aa 0) (Ac (Aa 1) (Ac (Aa 2) (Ac (Aa 3) Af)))))) (Aj (Ey (ZGO T.Cv T.Cz T.ZNu (ZMJ T) (hr.mono (by decide)) T.Zf pass0 (Aa 4))) (Am (Bk (Fe (Ac (Hf Iu rfl T.Hr Hq (Ac (Fj T.Cv T.Cz T.Mx (Aa 4)) Af)) (Ac (ZGO T.Cv T.Cz T.ZPr (ZPu T) (hr.mono (by decide)) T.Z7 pass0 (Aa 4)) Af)))))))
theorem ZN6 (T:Txt K mg t):FnOk P w K mg base CX0 8 t.Qc t.Uu ["_law_script"] (lF K Nz):=by
 refine Bt T.Uv K1 λcdv A outer s H E hr=> ?_
 exact (Aj (An 1 K1.nd (Aw (ZR4 T) (hr.mono (by decide)) rfl T.ZCv T.ZEw T.Vn pass0 (Ac (Aa 0) Af))) (Aj (An 2 K1.nd (Aw (ZNL T) (hr.mono (by decide)) rfl T.ZDA T.ZCu T.ZBE pass0 (Ac (Aa 0) (Ac (Aa 1) Af)))) (Aj (An 3 K1.nd (Al Ak (Aw (ZRd T) (hr.mono (by decide)) rfl T.ZE4 T.ZDK T.Vu pass0 (Ac (Aa 1) (Ac (Aa 2) (Ac (Aw (ZLn T) (hr.mono (by decide)) rfl T.ZFF T.ZCB T.Rk pass0 (Ac (Aa 0) Af)) (Ac (Al Ak (Df (Aw (ZNG T) (hr.mono (by decide)) rfl T.ZED T.ZDk T.Wz pass0 (Ac (Aa 0) (Ac (Aa 1) (Ac Ad Af))))) Ad) Af))))) Ad)) (Aj (Br (ZBT (Io (Aw (ZNX T) (hr.mono (by decide)) rfl T.ZEG T.ZC8 T.ZA9 pass0 (Ac (Aa 3) (Ac (Cu Ei rfl T.Eh El (Ac (Al Ak (Aa 1) Ad) Af)) Af))))) (Am (Bk Oc)) Bu) (Aj (Ed PassesOwn.never rfl (Hz rfl T.Gs (Ac (Cu Ei rfl T.Eh El (Ac (Aa 3) Af)) Af)) (Bb 4 K1.nd) (Aj (An 5 K1.nd (Al Ak (Al Ak (Aa 1) Ad) (Aa 4))) (Am (Br (Bl (Nt hr.units) (Al Ak (Aa 5) Ad) Ew (nomark _)) (Aj (An 6 K1.nd (Aw (ZMP T) (hr.mono (by decide)) rfl T.ZDC T.ZC5 T.Wu pass0 (Ac (Aa 5) Af))) (Aj (An 7 K1.nd (Aa 4)) (Aj (ZJM fuel PassesOwn.never (Ib (R8 (Bl (Dl hr.units) (Al Ak (Aa 5) Ad) Ew (nomark _)) (Ra (Bl P0 (Aa 7) Gb (nomark _))))) (Aj (An 6 K1.nd (Cu (Us rfl) rfl T.Oh Ow (Ac (Aa 6) (Ac (Aw (ZJ5 T) (hr.mono (by decide)) rfl T.ZFM T.ZDP T.Zq pass0 (Ac (Aa 1) (Ac (Aa 3) (Ac (Aa 4) (Ac (Aa 7) Af))))) Af)))) (Am (An 7 K1.nd (Aw (ZJg T) (hr.mono (by decide)) rfl T.Wr T.ZAO T.T3 pass0 (Ac (Aa 1) (Ac (Aa 7) Af))))))) (Am (Br (Ib (Ke (Bl (Nt hr.units) (Al Ak (Al Ak (Aa 3) (Aa 4)) Ad) (Aa 6) (nomark _)) (Lr (Bl (Nt hr.units) (Al Ak (Al Ak (Aa 3) (Aa 4)) Ad) (Ag Ft (Al Ak (Al Ak (Aa 3) (Aa 4)) Ad) (Aa 6)) (nomark _))))) (Am (Bk Oc)) Bu))))) Bu)))) (Am (Bk Oc)))))))
end
noncomputable def asks:List Ask:= [.cl "Course",.fn "_law_amount" ZCo,.fn "_law_off" ZD7,.fn "_law_tape" ZDD,.fn "_law_cell_at" ZFB,.fn "_law_dense" ZFE,.fn "_law_unit" ZCe,.fn "_law_floods" Qd,.fn "_law_down" ZDN,.fn "_law_next" ZCZ,.fn "_law_above" ZE8,.fn "_law_ahead" ZFO,.fn "_law_free" ZD9,.fn "_law_pumped" ZEv,.fn "_law_steps" ZFa,.fn "_law_year" ZEO,.fn "_law_rule" Rr,.fn "_law_basin" Zu,.fn "_law_name" ZB9,.fn "_law_house" Y0,.fn "_law_need" ZCf,.fn "_law_number" ZEL,.fn "_law_whole" ZEK,.fn "_law_page" ZBZ,.fn "_law_state" ZFX,.mt "Course" "__init__" "Course.__init__" Tq,.mt "Course" "send" "Course.send" ZDr,.fn "number_of" ZCA,.fn "down_of" ZFU,.mt "Course" "send_down" "Course.send_down" ZER,.fn "opened" ZEj,.fn "stairs_at" ZFT,.mt "Course" "go_basin" "Course.go_basin" ZDL,.fn "passed" Z2,.fn "down_in_reach" ZCR,.fn "reach_rows" ZFb,.fn "served" T6,.fn "way_down" ZDI,.fn "shares" ZB0,.mt "Course" "go_reach" "Course.go_reach" ZEW,.fn "lasts_of_reaches" ZEy,.mt "Course" "go" "Course.go" Vp,.mt "Course" "state_behind" "Course.state_behind" Td,.fn "turn" ZCp,.fn "law" Ii,.no "Course" "came",.no "Course" "coming",.no "Course" "house",.no "Course" "levels",.no "Course" "page",.no "Course" "reaches",.no "Course" "year_turn",.z "all",.z "bool",.z "enumerate",.z "int",.z "isinstance",.z "len",.z "list",.z "max",.z "min",.z "range",.z "sorted",.z "tuple",.z "zip",.gi "BRIM" 4,.gi "DELAY" 3,.gi "DOWN" 2,.gi "KIND" 0,.gi "LIES" 5,.gi "NAME" 1,.gi "NEED" 4,.gi "PLACES" 1,.gi "PUMP" 6,.gi "PUMP_DELAY" 1,.gi "PUMP_TO" 0,.gi "RANK" 5,.gi "ROW_DOWN" 0,.gi "ROW_NEED" 2,.gi "ROW_RANK" 3,.gi "ROW_WATER" 1,.gi "RULE" 5,.gs "SEA" "sea",.gi "YEAR" 0]
theorem all_mk {l:PySem.W.OpenLaw} {w:World} {K:PySem.W.Frag} {h:Heap} {mg:Str->Option Value} {fa:Addr} (X:K.In h) (G:h.Ns mainGlobals mg) (hfa:mg "law"=some (.ref fa)) (S:AllSaid K asks):
  ∃fd:FuncData,(∀(s:Shared) (v:Value),BindsTo s fd ⟨[v],[]⟩ [("_law_script",v)])/\∀base:Heap,K.In base->base.Ns mainGlobals mg->FnOk l.prog w K mg base CX0 8 fa fd ["_law_script"] (lF K Nz):=by
 obtain ⟨⟨ZJ2,ZSh,ZSi,ZSj,ZSk,ZDH,ZSl⟩,ZSm,ZSn,ZSo,ZSp,ZSq,ZSr,ZSs,ZSt,ZSu,ZSv,ZSw,ZSx,ZSy,ZSz,ZS0,ZS1,ZS2,ZS3,ZS4,ZS5,ZS6,ZS7,ZS8,ZS9,ZTA,ZTB,ZTC,ZTD,ZTE,ZTF,ZTG,ZTH,ZTI,ZTJ,ZTK,ZTL,ZTM,ZTN,ZTO,ZTP,ZTQ,ZTR,ZTS,ZTT,Py,T4,Jr,Yl,Mx,Wo,Vq,ZTU,ZTV,ZTW,ZTX,ZTY,ZTZ,ZTa,ZTb,ZTc,ZTd,ZTe,ZTf,ZTg,ZDW,ZAh,ZEf,Qh,ZEc,ZD4,ZDb,J1,Ug,ZDM,ZDU,ZEY,Qj,ZEZ,ZEz,ZEt,ZFA,ZCH,ZEd,_⟩:=S;obtain ⟨Qv,Vx,X8,Pk,Pj⟩:=Cp X G ZSm
 obtain ⟨Rq,Yh,Zz,ZDe,ZC0⟩:=Cp X G ZSn;obtain ⟨Rx,ZBI,ZAV,ZA8,ZBk⟩:=Cp X G ZSo;obtain ⟨S8,ZBi,Z0,Ej,Ep⟩:=Cp X G ZSp;obtain ⟨Uj,ZAR,ZA4,Mp,Nx⟩:=Cp X G ZSq;obtain ⟨Su,ZAz,Wv,N8,Ni⟩:=Cp X G ZSr;obtain ⟨Rv,Zw,Wf,ZED,ZDk⟩:=Cp X G ZSs;obtain ⟨U8,Wa,Wj,ZE9,ZEa⟩:=Cp X G ZSt;obtain ⟨Tg,ZAU,Yt,Wr,ZAO⟩:=Cp X G ZSu;obtain ⟨Rj,ZBD,ZBu,ZEg,ZCU⟩:=Cp X G ZSv;obtain ⟨Qu,Wq,Vy,ZDR,ZEm⟩:=Cp X G ZSw;obtain ⟨Rt,ZBo,ZAf,ZFM,ZDP⟩:=Cp X G ZSx
 obtain ⟨Sw,Y7,Zd,ZB8,ZDh⟩:=Cp X G ZSy;obtain ⟨R6,ZAq,Yz,ZCn,ZCG⟩:=Cp X G ZSz;obtain ⟨R3,Zy,Xz,Vg,W4⟩:=Cp X G ZS0;obtain ⟨R0,ZA5,Vd,ZD6,ZDQ⟩:=Cp X G ZS1;obtain ⟨U5,ZBA,Yc,ZDx,ZC9⟩:=Cp X G ZS2;obtain ⟨Qz,ZAj,Xp,ZFR,ZEl⟩:=Cp X G ZS3;obtain ⟨Rc,Yn,Zo,ZCv,ZEw⟩:=Cp X G ZS4;obtain ⟨T9,Yr,Ye,ZDC,ZC5⟩:=Cp X G ZS5;obtain ⟨Te,Za,ZA6,ZFF,ZCB⟩:=Cp X G ZS6;obtain ⟨Rf,Vz,Z4,ZCd,ZFQ⟩:=Cp X G ZS7;obtain ⟨Qq,Xf,ZAe,ZEG,ZC8⟩:=Cp X G ZS8
 obtain ⟨V5,Y9,ZBe,ZDA,ZCu⟩:=Cp X G ZS9;obtain ⟨R4,ZAy,Ws,ZJ3,ZJ4,ZTh⟩:=Oa ZTA;obtain ⟨Yx,ZBP,Vm,ZTi,ZTj,ZTl⟩:=Oa ZTB;obtain ⟨Tt,ZAc,ZAN,Yg,ZBc⟩:=Cp X G ZTC;obtain ⟨V2,Zt,Yw,Xh,ZBG⟩:=Cp X G ZTD;obtain ⟨ZBM,ZB3,ZA0,ZTm,ZTn,ZTo⟩:=Oa ZTE;obtain ⟨Ub,ZAm,Zn,ZFN,ZCD⟩:=Cp X G ZTF;obtain ⟨Rh,Xq,ZAC,ZC6,ZCX⟩:=Cp X G ZTG;obtain ⟨ZBN,ZBp,Zm,ZTp,ZTq,ZTr⟩:=Oa ZTH;obtain ⟨Tn,Xw,ZAo,ZBz,ZBg⟩:=Cp X G ZTI;obtain ⟨Sq,ZAi,Ww,Xg,ZBl⟩:=Cp X G ZTJ
 obtain ⟨U3,V8,X4,ZDw,ZFJ⟩:=Cp X G ZTK;obtain ⟨Qw,ZBS,ZAd,ZE3,ZDu⟩:=Cp X G ZTL;obtain ⟨Ui,Xk,Zr,ZE7,ZEn⟩:=Cp X G ZTM;obtain ⟨U6,ZBV,ZBF,ZCr,ZDd⟩:=Cp X G ZTN;obtain ⟨V6,ZAQ,Z3,ZTs,ZTt,ZTu⟩:=Oa ZTO;obtain ⟨Tw,ZBs,Wy,ZDB,ZCN⟩:=Cp X G ZTP;obtain ⟨X5,V7,ZA2,ZTv,ZTw,ZTx⟩:=Oa ZTQ;obtain ⟨Z5,Ze,ZAB,ZTy,ZTz,ZT0⟩:=Oa ZTR;obtain ⟨Uw,Xd,ZBt,ZE4,ZDK⟩:=Cp X G ZTS;obtain ⟨Qc,Uu,Uv,Vt,ZHf⟩:=Cp X G ZTT;obtain rfl:fa=Qc:=by rw [hfa] at Vt;cases Vt;rfl
 have T:Txt K mg ⟨_,_,_,_,_,_,_,_,_,_,_,_,_,_,_,_,_,_,_,_,_,_,_,_,_,_,_,_,_,_,_,_,_,_,_,_,_,_,_,_,_,_,_,_,_,_,_,_,_,_,_,_,_,_,_,_,_,_,_,_,_,_,_,_,_,_,_,_,_,_,_,_,_,_,_,_,_,_,_,_,_,_,_,_,_,_,_,_,_,_,_,_,_,_,_,_,_,_,_,_,_,_,_,_,_,_,_,_⟩:=⟨X8,X8.binds (ps:= ["_law_cell","_law_unit_here"]) (λ_ _ _ _ _ _ us hl=>match us,hl with | [_,_],_=>rfl),Pk,Pj,
  Zz,Zz.binds (ps:= ["_law_number_here","_law_k"]) (λ_ _ _ _ _ _ us hl=>match us,hl with | [_,_],_=>rfl),ZDe,ZC0,
  ZAV,ZAV.binds (ps:= ["_law_script"]) (λ_ _ _ _ _ _ us hl=>match us,hl with | [_],_=>rfl),ZA8,ZBk,
  Z0,Z0.binds (ps:= ["_law_script","_law_k"]) (λ_ _ _ _ _ _ us hl=>match us,hl with | [_,_],_=>rfl),Ej,Ep,
  ZA4,ZA4.binds (ps:= ["_law_script"]) (λ_ _ _ _ _ _ us hl=>match us,hl with | [_],_=>rfl),Mp,Nx,
  Wv,Wv.binds (ps:= ["_law_script"]) (λ_ _ _ _ _ _ us hl=>match us,hl with | [_],_=>rfl),N8,Ni,
  Wf,Wf.binds (ps:= ["_law_script","_law_house_here","_law_turns"]) (λ_ _ _ _ _ _ us hl=>match us,hl with | [_,_,_],_=>rfl),ZED,ZDk,
  Wj,Wj.binds (ps:= ["_law_house_here","_law_k"]) (λ_ _ _ _ _ _ us hl=>match us,hl with | [_,_],_=>rfl),ZE9,ZEa,
  Yt,Yt.binds (ps:= ["_law_house_here","_law_k"]) (λ_ _ _ _ _ _ us hl=>match us,hl with | [_,_],_=>rfl),Wr,ZAO,
  ZBu,ZBu.binds (ps:= ["_law_house_here","_law_at"]) (λ_ _ _ _ _ _ us hl=>match us,hl with | [_,_],_=>rfl),ZEg,ZCU,
  Vy,Vy.binds (ps:= ["_law_house_here","_law_k","_law_at"]) (λ_ _ _ _ _ _ us hl=>match us,hl with | [_,_,_],_=>rfl),ZDR,ZEm,
  ZAf,ZAf.binds (ps:= ["_law_house_here","_law_page_here","_law_at","_law_place"]) (λ_ _ _ _ _ _ us hl=>match us,hl with | [_,_,_,_],_=>rfl),ZFM,ZDP,
  Zd,Zd.binds (ps:= ["_law_steps_here"]) (λ_ _ _ _ _ _ us hl=>match us,hl with | [_],_=>rfl),ZB8,ZDh,
  Yz,Yz.binds (ps:= ["_law_cells","_law_unit_here","_law_pumps"]) (λ_ _ _ _ _ _ us hl=>match us,hl with | [_,_,_],_=>rfl),ZCn,ZCG,
  Xz,Xz.binds (ps:= ["_law_script"]) (λ_ _ _ _ _ _ us hl=>match us,hl with | [_],_=>rfl),Vg,W4,
  Vd,Vd.binds (ps:= ["_law_script","_law_b","_law_unit_here","_law_pumps"]) (λ_ _ _ _ _ _ us hl=>match us,hl with | [_,_,_,_],_=>rfl),ZD6,ZDQ,
  Yc,Yc.binds (ps:= ["_law_script","_law_b","_law_k","_law_names","_law_river"]) (λ_ _ _ _ _ _ us hl=>match us,hl with | [_,_,_,_,_],_=>rfl),ZDx,ZC9,
  Xp,Xp.binds (ps:= ["_law_cell","_law_k","_law_many"]) (λ_ _ _ _ _ _ us hl=>match us,hl with | [_,_,_],_=>rfl),ZFR,ZEl,
  Zo,Zo.binds (ps:= ["_law_script"]) (λ_ _ _ _ _ _ us hl=>match us,hl with | [_],_=>rfl),ZCv,ZEw,
  Ye,Ye.binds (ps:= ["_law_place"]) (λ_ _ _ _ _ _ us hl=>match us,hl with | [_],_=>rfl),ZDC,ZC5,
  ZA6,ZA6.binds (ps:= ["_law_script"]) (λ_ _ _ _ _ _ us hl=>match us,hl with | [_],_=>rfl),ZFF,ZCB,
  Z4,Z4.binds (ps:= ["_law_number_here"]) (λ_ _ _ _ _ _ us hl=>match us,hl with | [_],_=>rfl),ZCd,ZFQ,
  ZAe,ZAe.binds (ps:= ["_law_page_here","_law_many"]) (λ_ _ _ _ _ _ us hl=>match us,hl with | [_,_],_=>rfl),ZEG,ZC8,
  ZBe,ZBe.binds (ps:= ["_law_script","_law_house_here"]) (λ_ _ _ _ _ _ us hl=>match us,hl with | [_,_],_=>rfl),ZDA,ZCu,
  Ws,Ws.binds (ps:= ["self","house","state","at","flood"]) (λ_ _ _ _ _ _ us hl=>match us,hl with | [_,_,_,_,_],_=>rfl),⟨ZJ3,ZJ4,ZTh⟩,
  Vm,Vm.binds (ps:= ["self","to","delay","cubes"]) (λ_ _ _ _ _ _ us hl=>match us,hl with | [_,_,_,_],_=>rfl),⟨ZTi,ZTj,ZTl⟩,
  ZAN,ZAN.binds (ps:= ["house","name"]) (λ_ _ _ _ _ _ us hl=>match us,hl with | [_,_],_=>rfl),Yg,ZBc,
  Yw,Yw.binds (ps:= ["house","place"]) (λ_ _ _ _ _ _ us hl=>match us,hl with | [_,_],_=>rfl),Xh,ZBG,
  ZA0,ZA0.binds (ps:= ["self","number","cubes"]) (λ_ _ _ _ _ _ us hl=>match us,hl with | [_,_,_],_=>rfl),⟨ZTm,ZTn,ZTo⟩,
  Zn,Zn.binds (ps:= ["stairs","water"]) (λ_ _ _ _ _ _ us hl=>match us,hl with | [_,_],_=>rfl),ZFN,ZCD,
  ZAC,ZAC.binds (ps:= ["rule","turn"]) (λ_ _ _ _ _ _ us hl=>match us,hl with | [_,_],_=>rfl),ZC6,ZCX,
  Zm,Zm.binds (ps:= ["self","number"]) (λ_ _ _ _ _ _ us hl=>match us,hl with | [_,_],_=>rfl),⟨ZTp,ZTq,ZTr⟩,
  ZAo,ZAo.binds (ps:= ["rows","takes"]) (λ_ _ _ _ _ _ us hl=>match us,hl with | [_,_],_=>rfl),ZBz,ZBg,
  Ww,Ww.binds (ps:= ["house","number"]) (λ_ _ _ _ _ _ us hl=>match us,hl with | [_,_],_=>rfl),Xg,ZBl,
  X4,X4.binds (ps:= ["house","members","came"]) (λ_ _ _ _ _ _ us hl=>match us,hl with | [_,_,_],_=>rfl),ZDw,ZFJ,
  ZAd,ZAd.binds (ps:= ["rows"]) (λ_ _ _ _ _ _ us hl=>match us,hl with | [_],_=>rfl),ZE3,ZDu,
  Zr,Zr.binds (ps:= ["rows","number"]) (λ_ _ _ _ _ _ us hl=>match us,hl with | [_,_],_=>rfl),ZE7,ZEn,
  ZBF,ZBF.binds (ps:= ["rows"]) (λ_ _ _ _ _ _ us hl=>match us,hl with | [_],_=>rfl),ZCr,ZDd,
  Z3,Z3.binds (ps:= ["self","members"]) (λ_ _ _ _ _ _ us hl=>match us,hl with | [_,_],_=>rfl),⟨ZTs,ZTt,ZTu⟩,
  Wy,Wy.binds (ps:= ["house"]) (λ_ _ _ _ _ _ us hl=>match us,hl with | [_],_=>rfl),ZDB,ZCN,
  ZA2,ZA2.binds (ps:= ["self"]) (λ_ _ _ _ _ _ us hl=>match us,hl with | [_],_=>rfl),⟨ZTv,ZTw,ZTx⟩,
  ZAB,ZAB.binds (ps:= ["self"]) (λ_ _ _ _ _ _ us hl=>match us,hl with | [_],_=>rfl),⟨ZTy,ZTz,ZT0⟩,
  ZBt,ZBt.binds (ps:= ["house","state","at","flood"]) (λ_ _ _ _ _ _ us hl=>match us,hl with | [_,_,_,_],_=>rfl),ZE4,ZDK,
  Uv,Uv.binds (ps:= ["_law_script"]) (λ_ _ _ _ _ _ us hl=>match us,hl with | [_],_=>rfl),Vt,ZHf,
  ZJ2,⟨ZSh,ZSi,ZSj,ZSk⟩,PySem.W.mg_of X G ZJ2,⟨ZDH,ZJ3,ZJ4,ZSl⟩,Py,T4,Jr,Yl,Mx,Wo,Vq,
  PySem.W.mg_none_of X G ZTU,
  PySem.W.mg_none_of X G ZTV,
  PySem.W.mg_none_of X G ZTW,
  PySem.W.mg_none_of X G ZTX,
  PySem.W.mg_none_of X G ZTY,
  PySem.W.mg_none_of X G ZTZ,
  PySem.W.mg_none_of X G ZTa,
  PySem.W.mg_none_of X G ZTb,
  PySem.W.mg_none_of X G ZTc,
  PySem.W.mg_none_of X G ZTd,
  PySem.W.mg_none_of X G ZTe,
  PySem.W.mg_none_of X G ZTf,
  PySem.W.mg_none_of X G ZTg,
  PySem.W.mg_of X G ZDW,
  PySem.W.mg_of X G ZAh,
  PySem.W.mg_of X G ZEf,
  PySem.W.mg_of X G Qh,
  PySem.W.mg_of X G ZEc,
  PySem.W.mg_of X G ZD4,
  PySem.W.mg_of X G ZDb,
  PySem.W.mg_of X G J1,
  PySem.W.mg_of X G Ug,
  PySem.W.mg_of X G ZDM,
  PySem.W.mg_of X G ZDU,
  PySem.W.mg_of X G ZEY,
  PySem.W.mg_of X G Qj,
  PySem.W.mg_of X G ZEZ,
  PySem.W.mg_of X G ZEz,
  PySem.W.mg_of X G ZEt,
  PySem.W.mg_of X G ZFA,
  PySem.W.mg_of X G ZCH,
  PySem.W.mg_of X G ZEd⟩
 exact ⟨Uu,λs v=>ZKK Uv λ_ _ _ _ _ _ _=>rfl,λbase _ _=>ZN6 T⟩
theorem walk {l:PySem.W.OpenLaw} {q:Program} {loose:List Str} {XP:(Str->Option Value)->Heap->Prop} {YP:World->Heap->Prop} {d:DefRec} {K:World->PySem.W.Frag} (hn:l.most=some 63) (hdf:d.params.defaults= []) (HH:Holds)
  (hY:∀(w:World) (h:Heap),YP w h->(K w).In h)
  (F:∀(w:World) (mg:Str->Option Value) (fa:Addr) (h:Heap),(K w).In h->h.Ns mainGlobals mg->mg d.name=some (.ref fa)->
   ∃fd:FuncData,(∀(s:Shared) (u:Value),BindsTo s fd ⟨[u],[]⟩ [("_law_script",u)])/\∀base:Heap,(K w).In base->base.Ns mainGlobals mg->FnOk l.prog w (K w) mg base CX0 8 fa fd ["_law_script"] (lF (K w) Nz)):
  PySem.W.WalkO q loose XP YP l.row.toRowW d [] (λf vs=>PySem.call f vs):=
 L2.ZN7 (n:=63) (k:=8) (x:="_law_script") (CX:=λ_=>CX0) (sp:=λw=>lF (K w) Nz) hn (by decide) hdf ⟨rfl,by decide,by decide⟩ hY F
  (λw H a ns hl hO hS=>by
   obtain ⟨G,hG⟩:=HH ns hl;refine ⟨⟨K w,0,λ_=>0,H⟩,[],[.fl (ns.map D.int)],rfl,rfl,⟨rfl,λi j h=>absurd h (Nat.not_lt_zero _),λi o h=>by simp at h,λi h=>absurd h (Nat.not_lt_zero _)⟩,Reps.cons ⟨a,ns.map V.int,rfl,?_,Reps.ints ns⟩ Reps.nil,?_⟩
   ·rcases hS with (hS | hS) | hS
    ·rcases hO a with z | ⟨o,xs,z⟩
     ·rw [z] at hS;cases hS
     ·rw [z] at hS;cases hS
    ·exact .inl hS
    ·exact .inr hS
   ·rw [hG];exact λb v _ _ r=>r) λ_ _ _ _ _ z=>z
end Law
set_option maxRecDepth 100000
namespace Law
open PySem PySem.W L2 DL
abbrev rw_:OpenLaw:=PySem.Challenge.rw_sluiceway_k34_towns_take_by_rank
abbrev pw:Program:=OpenLaw.prog PySem.Challenge.rw_sluiceway_k34_towns_take_by_rank
def vw:Program:=view pw (List.range 66)
theorem ZN9:∀w os,(ZE1 pw w os).map (λs=>(ZCg pw w s.abs,PySem.W.Fast.tw4187177175401517315 vw [] (PySem.W.Fast.tw5923862056798008813 pw.main.body) (XtOf rw_ vw) true s.abs,ZCm asks s.abs.heap))=some (true,openGood vw [],ZFG asks):=λw os=>by kernel_rfl
theorem ZGM:∀w,(openEnds treeTable pw w 100000).map (λs=>(openSeen vw [] (importedModules pw.main.body) (XtOf rw_ vw) true s,ZCm asks s.heap))=some (openGood vw [],ZFG asks):=ZSH (by kernel_rfl) (λs=>rfl) ZN9
theorem well:rw_.wellSaid=true:=ZOQ (by kernel_rfl)
theorem hdef:defOf vw rw_.row.name=some (dOf Ii,[]):=by kernel_rfl
theorem hp:rw_.row.prog.theDef rw_.row.name=some ((dOf Ii).params,(dOf Ii).body,(dOf Ii).scope):=by kernel_rfl
theorem hk:kwWritten? (dOf Ii).params.kwonlyargs (dOf Ii).params.kw_defaults=some []:=by kernel_rfl
theorem hok:(chainsOk vw && opensWell rw_.row.prog && (frees rw_.row.toRowW && rw_.row.within.isEmpty))=true:=by kernel_rfl
theorem hdf:(dOf Ii).params.defaults= []:=by kernel_rfl
theorem hbare:rw_.row.prog.bare:=⟨rfl,rfl,rfl,rfl,rfl,by decide +kernel⟩
theorem hw:rw_.row.toRowW.promised:=by w_witness2
theorem walked:WalkO vw [] (XL vw []) (Stays rw_.prog 100000) rw_.row.toRowW (dOf Ii) [] λf vs=>PySem.call f vs:=
 walk (l:=rw_) (K:=λw=>Ud (Ky pw 100000 w)) rfl hdf holds (λw h Y=>Y.in) λw mg fa h KX G hmg=>all_mk KX G (show mg "law"=_ from hmg) (ZIx (ZR9 ZGM w))
end Law
open PySem PySem.W PyProof.Rows DL
theorem PySem.Challenge.cw_sluiceway_k34_towns_take_by_rank_holds : PySem.Challenge.rw_sluiceway_k34_towns_take_by_rank.Holds := by
 refine holds_top (l:=Law.rw_) (q:=Law.vw) (loose:= []) (N:=100000) (see:=ZCm Law.asks) (val:=ZFG Law.asks) (d:=dOf Law.Ii) ?_ ?_ ?_ ?_ ?_ ?_ ?_ ?_ ?_ ?_
 ·exact Law.well
 ·exact Law.ZGM
 ·exact Law.hdef
 ·exact Law.hp
 ·exact Law.hk
 ·rfl
 ·exact Law.hok
 ·exact Law.hbare
 ·exact Law.hw
 ·exact Law.walked
