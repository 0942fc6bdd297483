import PyProof.Rows.All
import Wide.All
import OpenK.AllK
import Wide.FinOn
import Lean
import PyProof.EqAt
import PyProof.EqKinds
import PyProof.TupleCall
import PyProof.NeKinds
import PyProof.IsInstanceH
import PyProof.SumWalkG
import PyProof.ConsumeWalk
import PyProof.IsiNone
import PyProof.WalksMore
import PyProof.PlainList
import PyProof.CompFree
import KE.KIntText
import PySem.Challenge.RW_sluiceway_k37_whole_no_cube_is_lost
set_option Elab.async false
set_option linter.all false
set_option maxRecDepth 100000
set_option maxHeartbeats 0
noncomputable section
namespace L2
open PySem PySem.Spec PyProof.Rows
variable {us:List Value} {u:Value} {a b C:Addr} {P:Program} {w:World} {h base:Heap} {t' i k:Nat} {ch fp:List Addr} {x:Str} {e c tg:Expr} {A:Around} {E Q:Value->Shared->Prop} {s:Shared} {pins:List (Addr×Obj)} {op:CmpOp} {K:PySem.W.Frag} {body:List Stmt} {f:Value->Value->Sem Value} {kw:List (Str×Value)} {mg:Str->Option Value} {kindOf:Str->Option NameKind}
noncomputable abbrev Key:=Sum Int Str
noncomputable def ZDX:Key->Value->Bool
 | .inl k,v=>Value.isInt k v
 | .inr x,v=>Value.isStrOf x v
noncomputable def keyH (w:World):Key->Int
 | .inl k=>hashInt k
 | .inr x=>hashStr w x
theorem K9:∀{k:Key} {v:Value},ZDX k v=true->(∃i t,k=Sum.inl i/\v=Value.int i t)∨(∃x t,k=Sum.inr x/\v=Value.str x t)
 | .inl i,v,h=>by obtain ⟨t,e⟩:=Value.isInt_shape (k:=i) (v:=v) h;exact .inl ⟨i,t,rfl,e⟩
 | .inr x,v,h=>by obtain ⟨t,e⟩:=Value.isStrOf_shape (x:=x) (v:=v) h;exact .inr ⟨x,t,rfl,e⟩
theorem ZLZ (a b:Int):decide ((Sum.inl a:Key)=Sum.inl b)=(a == b):=by
 by_cases e:a=b
 ·subst e;simp
 ·have h:¬(Sum.inl a:Key)=Sum.inl b:=λq=>e (Sum.inl.inj q)
  rw [decide_eq_false h];exact (beq_eq_false_iff_ne.mpr e).symm
theorem ZI1 (a b:Str):decide ((Sum.inr a:Key)=Sum.inr b)=decide (a=b):=by
 by_cases e:a=b
 ·subst e;simp
 ·have h:¬(Sum.inr a:Key)=Sum.inr b:=λq=>e (Sum.inr.inj q)
  rw [decide_eq_false h,decide_eq_false e]
theorem ZKB (a:Int) (b:Str):decide ((Sum.inl a:Key)=Sum.inr b)=false:=decide_eq_false (λq=>nomatch q)
theorem ZL5 (a:Str) (b:Int):decide ((Sum.inr a:Key)=Sum.inl b)=false:=decide_eq_false (λq=>nomatch q)
noncomputable def ZG7 (prog:Program) (w:World):PySem.KeyKind prog w Key where
 is:=ZDX
 hash:=keyH w
 inj:=λv a b ha hb=>by
  rcases K9 ha with ⟨i,t,rfl,rfl⟩ | ⟨x,t,rfl,rfl⟩
  ·rcases K9 hb with ⟨j,u,rfl,e⟩ | ⟨y,u,rfl,e⟩
   ·injection e with e1 _;rw [e1]
   ·exact nomatch e
  ·rcases K9 hb with ⟨j,u,rfl,e⟩ | ⟨y,u,rfl,e⟩
   ·exact nomatch e
   ·injection e with e1 _;rw [e1]
 byValue:=λk v h=>by rcases K9 h with ⟨i,t,rfl,rfl⟩ | ⟨x,t,rfl,rfl⟩ <;> rfl
 pyHash:=λhv h=>by
  rcases K9 hv with ⟨i,t,rfl,rfl⟩ | ⟨x,t,rfl,rfl⟩
  ·exact wpAny_pyHash_int h
  ·exact wpAny_pyHash_str h
 eqBool:=λhu hv h=>by
  rcases K9 hu with ⟨i,t,rfl,rfl⟩ | ⟨x,t,rfl,rfl⟩
  ·rcases K9 hv with ⟨j,u,rfl,rfl⟩ | ⟨y,u,rfl,rfl⟩
   ·rw [ZLZ] at h;exact wpAny_eqBool_int h
   ·rw [ZKB] at h;exact SeqAt.EqAt.int_str i t y u _ _ _ _ h
  ·rcases K9 hv with ⟨j,u,rfl,rfl⟩ | ⟨y,u,rfl,rfl⟩
   ·rw [ZL5] at h;exact SeqAt.EqAt.str_int x t j u _ _ _ _ h
   ·rw [ZI1] at h;exact wpAny_eqBool_str h
 «strs»:=λk x t v h=>by
  rcases K9 h with ⟨i,u,rfl,e⟩ | ⟨y,u,rfl,e⟩
  ·exact nomatch e
  ·injection e with e1 _
   subst e1
   cases v <;> rfl
inductive V where
 | non | bl (b:Bool) | int (i:Int) | str (x:Str) | byt (b:Array UInt8) | flt (b:UInt64) | ref (a:Addr) | ty (n:String)
 deriving DecidableEq
variable {v y:V} {vs:List V}
noncomputable def RelV:V->Value->Prop
 | .non,u=>u=Value.none
 | .bl b,u=>u=Value.bool b
 | .int i,u=>∃t,u=Value.int i t
 | .str x,u=>∃t,u=Value.str x t
 | .byt b,u=>∃t,u=Value.bytes b t
 | .flt b,u=>∃t,u=Value.float b t
 | .ref a,u=>u=Value.ref a
 | .ty n,u=>u=Value.type n
noncomputable abbrev Vals:List V->List Value->Prop:=Paired RelV
theorem Vals.length {xs:List V} (r:Vals xs us):xs.length=us.length:=Paired.length r
theorem Vals.get:∀{xs:List V} {us:List Value} {i:Nat} {x:V},Vals xs us->xs[i]? =some x->∃u,us[i]? =some u/\RelV x u
 | _,_,_,_,.nil,e=>by simp at e
 | _,_,0,_,.cons r _,e=>by simp at e;subst e;exact ⟨_,rfl,r⟩
 | _,_,i + 1,x,.cons _ t,e=>by obtain ⟨u,h1,h2⟩:=Vals.get (i:=i) (x:=x) t (by simpa using e);exact ⟨u,by simpa using h1,h2⟩
theorem Vals.set {x:V} (r:RelV x u):∀{xs:List V} {us:List Value} (i:Nat),Vals xs us->Vals (xs.set i x) (us.set i u)
 | _,_,_,.nil=>.nil
 | _,_,0,.cons _ t=>.cons r t
 | _,_,i + 1,.cons q t=>.cons q (Vals.set r i t)
theorem Vals.append:∀{xs ys:List V} {us ws:List Value},Vals xs us->Vals ys ws->Vals (xs++ys) (us++ws)
 | _,_,_,_,.nil,s=>s
 | _,_,_,_,.cons r t,s=>.cons r (Vals.append t s)
theorem Vals.take:∀{xs:List V} {us:List Value} (n:Nat),Vals xs us->Vals (xs.take n) (us.take n)
 | _,_,0,_=>.nil
 | _,_,_ + 1,.nil=>.nil
 | _,_,n + 1,.cons r t=>.cons r (Vals.take n t)
theorem Vals.drop:∀{xs:List V} {us:List Value} (n:Nat),Vals xs us->Vals (xs.drop n) (us.drop n)
 | _,_,0,r=>r
 | _,_,_ + 1,.nil=>.nil
 | _,_,n + 1,.cons _ t=>Vals.drop n t
noncomputable def RelO:Option V->Option Value->Prop
 | some v,some u=>RelV v u
 | none,none=>True
 | _,_=>False
noncomputable def KV {κ:Type}:List (κ×V)->List (κ×Value)->Prop:=Paired λ(p:κ×V) (q:κ×Value)=>p.1=q.1/\RelV p.2 q.2
noncomputable def kV:Key->V
 | .inl i=>.int i
 | .inr x=>.str x
inductive HO where
 | lst (xs:List V)
 | tup (xs:List V)
 | dK (kvs:List (Key×V)) | dT (kvs:List (List Key×V))
 | set (S:Int->Bool) (n:Nat)
 | ins (C dx:Addr) (fs:List (Str×V))
 | own (x:Addr)
 | xd (fs:List (Str×V))
 | met (f x:Addr)
 | rng (lo hi:Int)
 | frz (o:Obj) (u:HO)
 | tbl (ps:Array Value)
 | ext (φ:Heap->Prop)
variable {o:HO}
noncomputable abbrev Hp:=Addr->Option HO
variable {H:Hp}
noncomputable def upd (H:Hp) (a:Addr) (o:HO):Hp:=λb=>if b=a then some o else H b
theorem Gk:upd H a o a=some o:=by unfold upd;rw [if_pos rfl]
theorem Bc (h:b≠a):upd H a o b=H b:=by unfold upd;rw [if_neg h]
theorem Ij (h:H a=some o) (h':H b=none):a≠b:=by intro e;subst e;rw [h] at h';cases h'
section
variable (P:Program) (w:World)
noncomputable def ObjOk (H:Hp) (h:Heap) (a:Addr):HO->Prop
 | .lst xs=>xs.length<=sizeLine/\∃(its:List Value) (n:Nat),Vals xs its/\h.get? a=some {cls:=.type "list",data:=.seq its.toArray n}
 | .tup xs=>xs.length<=sizeLine/\∃its:List Value,Vals xs its/\IsTup h a its.toArray
 | .dK kvs=>kvs.length<=sizeLine/\(a == sysModules)=false/\∃vs,KV kvs vs/\h.DictOf (ZG7 P w) a vs
 | .dT kvs=>kvs.length<=sizeLine/\(a == sysModules)=false/\∃xs:List (List Key×Addr×Value),
   Paired (λ(p:List Key×V) (q:List Key×Addr×Value)=>p.1=q.1/\H q.2.1=some (.tup (p.1.map kV))/\RelV p.2 q.2.2) kvs xs/\
   ∃o es ep,h.get? a=some o/\o.ExactDict/\o.data=.dict es ep/\es.toList=xs.map (entryOfKey (tupleKind (ZG7 P w)))/\(xs.map (·.1)).Nodup
 | .set S n=>h.SetOf (intKind P w) a S n
 | .ins C dx fs=>H dx=some (.own a)/\fs.length<=1000/\dx≠a/\h.get? a=some (PySem.W.instObj C dx)/\
   ∃mA,h.Ns1 dx mA/\(∀f,RelO (fs.lookup f) (mA f))/\PySem.Within mA (fs.map (·.1))
 | .own _=>∃o,h.get? a=some o
 | .xd fs=>∃mA,h.Ns1 a mA/\∀f,RelO (fs.lookup f) (mA f)
 | .rng lo hi=>∃t u v,h.get? a=some {cls:=.type "range",data:=.fields #[.int lo t,.int hi u,.int 1 v]}
 | .frz o u=>h.get? a=some o/\ObjOk H h a u
 | .tbl ps=>h.get? a=some {cls:=.none,data:=.fields ps}
 | .met f x=>h.get? a=some (PySem.W.methodObj (.ref f) (.ref x))
 | .ext φ=>φ h/\(∃o,h.get? a=some o)/\∀h1 h2:Heap,φ h1->(∀o,h1.get? a=some o->h2.get? a=some o)->φ h2
noncomputable def HOk (H:Hp) (h:Heap):Prop:=∀a o,H a=some o->ObjOk P w H h a o
end
section
variable {P:Program} {w:World} {H H':Hp} {h h':Heap} {a:Addr} {o:HO}
theorem ObjOk.lt (x:ObjOk P w H h a o):a < h.objs.size:=by
 cases o with
 | lst xs=>obtain ⟨_,_,_,_,e⟩:=x;exact Heap.lt_size e
 | tup xs=>obtain ⟨_,_,_,p⟩:=x;exact p.lt
 | dK kvs=>obtain ⟨_,_,_,_,o,_,_,e,_⟩:=x;exact Heap.lt_size e
 | dT kvs=>obtain ⟨_,_,_,_,o,_,_,e,_⟩:=x;exact Heap.lt_size e
 | set S n=>obtain ⟨o,_,_,_,e,_⟩:=x;exact Heap.lt_size e
 | ins C dx fs=>obtain ⟨_,_,_,e,_⟩:=x;exact Heap.lt_size e
 | own y=>obtain ⟨_,e⟩:=x;exact Heap.lt_size e
 | xd fs=>obtain ⟨_,⟨_,_,_,e,_⟩,_⟩:=x;exact Heap.lt_size e
 | rng lo hi=>obtain ⟨_,_,_,e⟩:=x;exact Heap.lt_size e
 | frz ob u=>obtain ⟨e,_⟩:=x;exact Heap.lt_size e
 | tbl ps=>exact Heap.lt_size (show h.get? a=some _ from x)
 | met f y=>exact Heap.lt_size (show h.get? a=some _ from x)
 | ext φ=>obtain ⟨_,⟨_,e⟩,_⟩:=x;exact Heap.lt_size e
theorem Paired.mapP {α β:Type} {F G:α->β->Prop}:∀{l₁:List α} {l₂:List β},Paired F l₁ l₂->(∀a b,F a b->G a b)->Paired G l₁ l₂
 | _,_,.nil,_=>.nil
 | _,_,.cons r t,f=>.cons (f _ _ r) (Paired.mapP t f)
theorem ObjOk.stay (x:ObjOk P w H h a o) (k:∀b u,(b=a∨H b=some (.own a))->h.get? b=some u->h'.get? b=some u)
  (ho:∀b,H b=some (.own a)->H' b=some (.own a)) (ht:∀b xs,H b=some (.tup xs)->H' b=some (.tup xs)):ObjOk P w H' h' a o:=by
 induction o with
 | lst xs=>obtain ⟨z,its,n,r,e⟩:=x;exact ⟨z,its,n,r,k _ _ (.inl rfl) e⟩
 | tup xs=>obtain ⟨z,its,r,ob,e,c⟩:=x;exact ⟨z,its,r,ob,k _ _ (.inl rfl) e,c⟩
 | dK kvs=>obtain ⟨z,y,vs,r,ob,es,ep,e,c⟩:=x;exact ⟨z,y,vs,r,ob,es,ep,k _ _ (.inl rfl) e,c⟩
 | dT kvs=>
  obtain ⟨z,y,xs,r,ob,es,ep,e,c⟩:=x;exact ⟨z,y,xs,Paired.mapP r λp q z=>⟨z.1,ht _ _ z.2.1,z.2.2⟩,ob,es,ep,k _ _ (.inl rfl) e,c⟩
 | set S n=>obtain ⟨ob,es,ep,t,e,c⟩:=x;exact ⟨ob,es,ep,t,k _ _ (.inl rfl) e,c⟩
 | ins C dx fs=>
  obtain ⟨d,z,ne,e,mA,⟨od,es,ep,e2,c⟩,r⟩:=x;exact ⟨ho _ d,z,ne,k _ _ (.inl rfl) e,mA,⟨od,es,ep,k _ _ (.inr d) e2,c⟩,r⟩
 | own y=>obtain ⟨ob,e⟩:=x;exact ⟨ob,k _ _ (.inl rfl) e⟩
 | xd fs=>obtain ⟨mA,⟨od,es,ep,e,c⟩,r⟩:=x;exact ⟨mA,⟨od,es,ep,k _ _ (.inl rfl) e,c⟩,r⟩
 | rng lo hi=>obtain ⟨t,u,v,e⟩:=x;exact ⟨t,u,v,k _ _ (.inl rfl) e⟩
 | frz ob u ih=>obtain ⟨e,q⟩:=x;exact ⟨k _ _ (.inl rfl) e,ih q⟩
 | tbl ps=>
  have e:h.get? a=some {cls:=.none,data:=.fields ps}:=x;show h'.get? a=some {cls:=.none,data:=.fields ps};exact k a _ (.inl rfl) e
 | met f y=>
  have e:h.get? a=some (PySem.W.methodObj (.ref f) (.ref y)):=x;show h'.get? a=some (PySem.W.methodObj (.ref f) (.ref y));exact k a _ (.inl rfl) e
 | ext φ=>obtain ⟨p,⟨o,e⟩,st⟩:=x;exact ⟨st _ _ p λo q=>k _ _ (.inl rfl) q,⟨o,k _ _ (.inl rfl) e⟩,st⟩
theorem HOk.lt (x:HOk P w H h) (e:H a=some o):a < h.objs.size:=(x a o e).lt
theorem HOk.fresh (x:HOk P w H h) (e:h.objs.size<=a):H a=none:=by
 cases q:H a with
 | none=>rfl
 | some u=>exact absurd (Nat.lt_of_lt_of_le (x.lt q) e) (Nat.lt_irrefl _)
theorem HOk.kept (x:HOk P w H h) (k:∀b u,h.get? b=some u->h'.get? b=some u):HOk P w H h':=λa o e=>
 (x a o e).stay (λb u _ q=>k b u q) (λ_ q=>q) λ_ _ q=>q
theorem HOk.laid (x:HOk P w H h) (k:∀b u,h.get? b=some u->h'.get? b=some u) (hp:h.objs.size<=a) (new:ObjOk P w (upd H a o) h' a o):HOk P w (upd H a o) h':=λb u e=>by
 have hn:=x.fresh hp;by_cases hb:b=a
 ·subst hb;rw [Gk] at e;cases e;exact new
 ·rw [Bc hb] at e;exact (x b u e).stay (λc v _ q=>k c v q) (λc q=>by rw [Bc (Ij q hn)];exact q) λc xs q=>by rw [Bc (Ij q hn)];exact q
end
noncomputable def Rd (H:Hp) (a:Addr) (u:HO):Prop:=H a=some u∨∃o,H a=some (.frz o u)
theorem Rd.ok {u:HO} (r:Rd H a u) (x:HOk P w H h):ObjOk P w H h a u:=by
 rcases r with r | ⟨o,r⟩
 ·exact x a u r
 ·obtain ⟨_,q⟩:=x a _ r;exact q
noncomputable def Mut:Option HO->Prop
 | some (.lst _)=>True
 | some (.dK _)=>True
 | some (.dT _)=>True
 | some (.set _ _)=>True
 | some (.ins _ _ _)=>True
 | some (.ext _)=>True
 | _=>False
section
variable {P:Program} {w:World} {H:Hp} {h h':Heap} {x e:Addr} {o':HO}
theorem HOk.write (ok:HOk P w H h) (mu:Mut (H x)) (he:e=x∨H e=some (.own x)) (k:∀b u,b≠e->h.get? b=some u->h'.get? b=some u) (heo:∃u,h'.get? e=some u)
  (new:ObjOk P w (upd H x o') h' x o'):HOk P w (upd H x o') h':=λb u q=>by
 have nown:∀c y,H c=some (.own y)->c≠x:=λc y r z=>by subst z;rw [r] at mu;exact mu
 have ntup:∀c xs,H c=some (.tup xs)->c≠x:=λc xs r z=>by subst z;rw [r] at mu;exact mu
 by_cases hb:b=x
 ·subst hb;rw [Gk] at q;cases q;exact new
 ·rw [Bc hb] at q;by_cases hbe:b=e
  ·have q':H b=some (.own x):=by
    rcases he with z | z
    ·exact absurd (hbe.trans z) hb
    ·rw [hbe];exact z
   rw [q] at q';cases q';obtain ⟨v,hv⟩:=heo;exact ⟨v,by rw [hbe];exact hv⟩
  ·refine (ok b u q).stay (λc v hc r=>k c v ?_ r) (λc r=>by rw [Bc (nown c b r)];exact r) λc xs r=>by rw [Bc (ntup c xs r)];exact r
   rcases hc with rfl | hc
   ·exact hbe
   ·rintro rfl;rcases he with z | z
    ·exact nown c b hc z
    ·rw [hc] at z;cases z;exact hb rfl
end
structure Un (fs ex:List Addr) (H H':Hp) (h h':Heap):Prop where
 keep:∀b o,h.get? b=some o->H b=none->b ∉ fs->b ∉ ex->h'.get? b=some o
 slot:∀b o,h.get? b=some o->H b=none->b∈fs->b ∉ ex->∃sl,h'.get? b=some {o with slots:=sl}
 free:∀b o,h.get? b=some o->H b=none->b ∉ ex->H' b=none
 there:∀b o,h.get? b=some o->b ∉ ex->∃o',h'.get? b=some o'
 tups:∀b xs,H b=some (.tup xs)->H' b=some (.tup xs)
 frzs:∀b o u,H b=some (.frz o u)->H' b=some (.frz o u)
 tbls:∀b ps,H b=some (.tbl ps)->∃more,H' b=some (.tbl (ps++more))
section
variable {fs fs' ex ex':List Addr} {H H1 H2:Hp} {h h1 h2 h':Heap} {a x e:Addr} {o:HO}
theorem Un.any (u:Un fs ex H H1 h h1) {ob:Obj} (q:h.get? b=some ob) (n:H b=none) (hx:b ∉ ex):∃sl,h1.get? b=some {ob with slots:=sl}:=by
 by_cases hb:b∈fs
 ·exact u.slot b ob q n hb hx
 ·exact ⟨ob.slots,u.keep b ob q n hb hx⟩
theorem Un.kept (k:∀b u,h.get? b=some u->h'.get? b=some u):Un fs ex H H h h':=
 ⟨λb ob q _ _ _=>k b ob q,λb ob q _ _ _=>⟨ob.slots,k b ob q⟩,λ_ _ _ n _=>n,λb ob q _=>⟨ob,k b ob q⟩,λ_ _ q=>q,λ_ _ _ q=>q,λ_ ps q=>⟨#[],by rw [q];simp⟩⟩
theorem Un.refl:Un fs ex H H h h:=Un.kept λ_ _ q=>q
theorem Un.laid (k:∀b u,h.get? b=some u->h'.get? b=some u) (hp:h.objs.size<=a) (hn:H a=none):Un fs ex H (upd H a o) h h' where
 keep:=λb u q _ _ _=>k b u q
 slot:=λb u q _ _ _=>⟨u.slots,k b u q⟩
 free:=λb u q n _=>by rw [Bc (Nat.ne_of_lt (Nat.lt_of_lt_of_le (Heap.lt_size q) hp))];exact n
 there:=λb u q _=>⟨u,k b u q⟩
 tups:=λb xs q=>by rw [Bc (Ij q hn)];exact q
 frzs:=λb u xs q=>by rw [Bc (Ij q hn)];exact q
 tbls:=λb ps q=>⟨#[],by rw [Bc (Ij q hn),q];simp⟩
theorem Un.write (mu:Mut (H x)) (he:e=x∨H e=some (.own x)) (k:∀b u,b≠e->h.get? b=some u->h'.get? b=some u) (heo:∃u,h'.get? e=some u):Un fs ex H (upd H x o) h h':=by
 have hx:∀b,H b=none->b≠x:=λb n z=>by subst z;rw [n] at mu;exact mu
 have hb:∀b,H b=none->b≠e:=λb n z=>by
  subst z;rcases he with r | r
  ·exact hx b n r
  ·rw [n] at r;cases r
 have hm:∀b u,H b=some u->¬Mut (some u)->b≠x:=λb u q nm z=>by subst z;rw [q] at mu;exact nm mu
 refine ⟨λb u q n _ _=>k b u (hb b n) q,λb u q n _ _=>⟨u.slots,k b u (hb b n) q⟩,λb u q n _=>by rw [Bc (hx b n)];exact n,λb u q _=> ?_,
  λb xs q=>by rw [Bc (hm b _ q λz=>z)];exact q,λb u xs q=>by rw [Bc (hm b _ q λz=>z)];exact q,λb ps q=>⟨#[],by rw [Bc (hm b _ q λz=>z),q];simp⟩⟩
 by_cases hbe:b=e
 ·subst hbe;exact heo
 ·exact ⟨u,k b u hbe q⟩
end
noncomputable def trk (h:Heap) (H:Hp):List Addr:=(List.range h.objs.size).filter λa=>(H a).isSome
noncomputable def Ln (h:Heap) (H:Hp):Heap:=PySem.W.hideAll h (trk h H)
theorem ZH5 (h:Heap) (H:Hp):(Ln h H).objs.size=h.objs.size:=PySem.W.hideAll_size _ _
theorem ZLG {o:Obj} (e:h.get? b=some o) (n:H b=none):(Ln h H).get? b=some o:=
 PySem.W.hideAll_get _ e λhm=>by have q:(H b).isSome=true:=(List.mem_filter.mp hm).2;rw [n] at q;simp at q
theorem ZLs {o:Obj} (e:(Ln h H).get? b=some o):h.get? b=some o/\H b=none:=by
 have e':h.get? b=some o:=PySem.W.of_hideAll (trk h H) e;refine ⟨e',?_⟩;cases q:H b with
 | none=>rfl
 | some x=>
  have hm:b∈trk h H:=List.mem_filter.mpr ⟨List.mem_range.mpr (Heap.lt_size e'),by simp [q]⟩;have z:(Ln h H).get? b=none:=PySem.W.hideAll_none (trk h H) hm;rw [z] at e;cases e
noncomputable def ZIw (g h:Heap) (L:Addr):List (Addr×Obj):=(List.range h.objs.size).filterMap λa=>if a=L∨(g.get? a).isSome=true then none else (h.get? a).map λo=>(a,o)
noncomputable def rest (g h:Heap) (L d:Addr):List (Addr×Obj):=(ZIw g h L).filter λp=>decide (p.1≠d)
structure Mod (K:PySem.W.Frag) (mg:Str->Option Value) (base:Heap):Prop where
 kin:K.In base
 glob:base.Ns mainGlobals mg
 blt:∃mb,base.Ns builtinsNs mb/\∀x:Str,x≠"__name__"->mb x=bootBuiltins x
 nolimit:base.NoLimit
structure Cx where
 prog:Program
 w:World
 K:PySem.W.Frag
 mg:Str->Option Value
 base:Heap
 A:Around
 N:List Str
 s₀:Shared
 H₀:Hp
 env:Env
 outer:List Env
 stack:List Env
 ex:List Addr
 fn:Str->Bool
 calm:Bool
 pn:List (Addr×Obj)
 xe:Value->Shared->Prop
variable {X:Cx}
noncomputable def frs (l:List Env):List Addr:=l.filterMap (·.frame)
noncomputable abbrev Cx.fs (X:Cx):List Addr:=frs X.outer
noncomputable def Vis (sc:Scope) (x:Str):Prop:=sc.names.lookup x=some .local∨sc.names.lookup x=some .cell∨sc.names.lookup x=some .free
noncomputable def Loc (sc:Scope) (x:Str):Prop:=sc.names.lookup x=some .local∨sc.names.lookup x=some .cell
noncomputable def Look (env:Env) (h:Heap) (m:Str->Option Value) (x:Str) (u:Value):Prop:=
 (env.kindOf x=some .local/\m x=some u)∨((env.kindOf x=some .cell∨env.kindOf x=some .free)/\∃c,env.cells.lookup x=some c/\h.IsCell c (some u))
structure Cx.Ok (X:Cx):Prop where
 mod:Mod X.K X.mg X.base
 kind:X.env.scope.kind=.function
 glob:X.env.globals=mainGlobals
 blt:X.env.builtins=builtinsNs
 above:X.s₀.heap.objs.size<=X.env.locals
 inj:∀x y c,X.env.cells.lookup x=some c->X.env.cells.lookup y=some c->x=y
 has:∀x,(X.env.kindOf x=some .cell∨X.env.kindOf x=some .free)->∃c,X.env.cells.lookup x=some c
 cab:∀x c,X.fn x=true->X.env.cells.lookup x=some c->X.s₀.heap.objs.size<=c
 hd:X.calm=true->X.A.handled=none
 frames:X.A.frames=some X.stack
 stk:X.stack=X.outer∨(X.stack=X.env::X.outer/\X.env.frame=some X.env.locals)
 exf:∀b∈X.ex,b≠X.env.locals/\∀x c,X.env.cells.lookup x=some c->c≠b
 bs:∀b o,X.base.get? b=some o->X.s₀.heap.get? b=some o/\X.H₀ b=none
 bsz:X.base.objs.size<=X.s₀.heap.objs.size
 noex:∀b o,X.base.get? b=some o->b ∉ X.ex
 exfs:∀b∈X.ex,b ∉ X.fs
 funs:X.s₀.heap.FunFrames X.base X.outer
 frf:∀b∈X.fs,X.H₀ b=none
structure Inv (X:Cx) (pins:List (Addr×Obj)) (σ:List (Option V)) (H:Hp) (s:Shared):Prop where
 ok:X.Ok
 os:s.os=X.s₀.os
 bare:AllBare s.gens
 base:Un X.fs X.ex X.H₀ H X.s₀.heap s.heap
 loc:∃m,s.heap.Ns X.env.locals m/\∀(i:Nat) (x:Str) (v:V),X.N[i]? =some x->σ[i]? =some (some v)->Vis X.env.scope x->∃u,RelV v u/\Look X.env s.heap m x u
 cell:∀x c,X.env.cells.lookup x=some c->∃v,s.heap.IsCell c v
 free:H X.env.locals=none
 Jm:∀x c,X.env.cells.lookup x=some c->H c=none
 pin:∀p∈X.pn++pins,s.heap.get? p.1=some p.2/\H p.1=none/\p.1≠X.env.locals/\p.1 ∉ X.fs/\∀v,p.2.data≠ .cell v
 hok:HOk X.prog X.w H s.heap
 len:σ.length=X.N.length
section
variable {X:Cx} {pins:List (Addr×Obj)} {σ:List (Option V)} {H H':Hp} {s:Shared} {h':Heap}
theorem Cx.Ok.nofr (ok:X.Ok) {o:Obj} (e:X.base.get? b=some o):b ∉ X.fs:=λhb=>by have:=(ok.funs.mem hb).1;rw [e] at this;cases this
theorem Inv.bs (I:Inv X pins σ H s):∀b o,X.base.get? b=some o->s.heap.get? b=some o/\H b=none:=λb o e=>
 ⟨I.base.keep b o (I.ok.bs b o e).1 (I.ok.bs b o e).2 (I.ok.nofr e) (I.ok.noex b o e),I.base.free b o (I.ok.bs b o e).1 (I.ok.bs b o e).2 (I.ok.noex b o e)⟩
theorem Inv.bk (I:Inv X pins σ H s):∀b o,X.base.get? b=some o->s.heap.get? b=some o:=λb o e=>(I.bs b o e).1
theorem Inv.mod (I:Inv X pins σ H s):Mod X.K X.mg X.base:=I.ok.mod
theorem Inv.kIn (I:Inv X pins σ H s):X.K.In s.heap:=I.ok.mod.kin.keeps I.bk
theorem Inv.lt (I:Inv X pins σ H s):X.env.locals < s.heap.objs.size:=let ⟨_,hn,_⟩:=I.loc;hn.lt
theorem Inv.sz (I:Inv X pins σ H s):X.s₀.heap.objs.size<=s.heap.objs.size:=Nat.le_trans I.ok.above (Nat.le_of_lt I.lt)
theorem Inv.nofs (I:Inv X pins σ H s) (h:s.heap.objs.size<=a):a ∉ X.fs:=λhb=>by obtain ⟨_,o,ho,_⟩:=I.ok.funs.mem hb;exact absurd (Nat.lt_of_lt_of_le (Heap.lt_size ho) (Nat.le_trans I.sz h)) (Nat.lt_irrefl _)
theorem Inv.cne (I:Inv X pins σ H s):∀x c,X.env.cells.lookup x=some c->c≠X.env.locals:=λx c e z=>by obtain ⟨v,o,ho,hd⟩:=I.cell x c e;obtain ⟨m,⟨o',es,ep,ho',hd',_⟩,_⟩:=I.loc;rw [z,ho'] at ho;cases ho;rw [hd'] at hd;cases hd
theorem Inv.funs (I:Inv X pins σ H s):s.heap.FunFrames X.base X.outer:=by
 have all:∀(l:List Env),(∀b∈frs l,b∈X.fs)->X.s₀.heap.FunFrames X.base l->s.heap.FunFrames X.base l:=by
  intro l
  induction l with
  | nil=>intro _ _;trivial
  | cons env r ih=>
   intro hs hl;obtain ⟨hk,⟨L,o,hf,hn,ho,hd⟩,hr⟩:=hl;have hL:L∈X.fs:=hs L (by unfold frs;rw [List.filterMap_cons,hf];exact List.mem_cons_self);obtain ⟨sl,e⟩:=I.base.slot L o ho (I.ok.frf L hL) hL λz=>I.ok.exfs L z hL
   exact ⟨hk,⟨L,_,hf,hn,e,hd⟩,ih (λb hb=>hs b (by unfold frs;rw [List.filterMap_cons,hf];exact List.mem_cons_of_mem _ hb)) hr⟩
 exact all X.outer (λ_ hb=>hb) I.ok.funs
theorem Inv.stack (I:Inv X pins σ H s):s.heap.FunFrames X.base X.stack:=by
 rcases I.ok.stk with e | ⟨e,hf⟩
 ·rw [e];exact I.funs
 ·rw [e];obtain ⟨m,hn,_⟩:=I.loc;refine .cons (by rw [I.ok.kind];decide) hf hn ?_ I.funs;exact Heap.get?_none_of_le (Nat.le_trans I.ok.bsz I.ok.above)
theorem Inv.Y6 (I:Inv X pins σ H s):∀b∈frs X.stack,b∈X.env.locals::X.fs:=λb hb=>by
 rcases I.ok.stk with e | ⟨e,hf⟩
 ·rw [e] at hb;exact List.mem_cons_of_mem _ hb
 ·rw [e] at hb;unfold frs at hb;rw [List.filterMap_cons,hf] at hb;exact hb
theorem Inv.ZHN (I:Inv X pins σ H s):∀b∈frs X.stack,H b=none:=λb hb=>by
 rcases List.mem_cons.mp (I.Y6 b hb) with e | hb
 ·rw [e];exact I.free
 ·obtain ⟨_,o,ho,_⟩:=I.ok.funs.mem hb;exact I.base.free b o ho (I.ok.frf b hb) λz=>I.ok.exfs b z hb
theorem Inv.step {g':Array GenState} {d':Drawn} (I:Inv X pins σ H s)
  (hch:∀b∈ch,(b∈X.ex∨X.s₀.heap.objs.size<=b)/\b≠X.env.locals/\(∀x c,X.env.cells.lookup x=some c->c≠b)/\∀p∈X.pn++pins,p.1≠b)
  (keep:∀b o,b≠X.env.locals->b ∉ X.fs->b ∉ ch->s.heap.get? b=some o->H b=none->h'.get? b=some o)
  (slot:∀b o,b≠X.env.locals->b∈X.fs->b ∉ ch->s.heap.get? b=some o->H b=none->∃sl,h'.get? b=some {o with slots:=sl}) (free:∀b o,b ∉ ch->s.heap.get? b=some o->H b=none->H' b=none)
  (there:∀b o,b ∉ ch->s.heap.get? b=some o->∃o',h'.get? b=some o')
  (tups:∀b xs,H b=some (.tup xs)->H' b=some (.tup xs)) (frzs:∀b o u,H b=some (.frz o u)->H' b=some (.frz o u)) (tbls:∀b ps,H b=some (.tbl ps)->∃more,H' b=some (.tbl (ps++more)))
  (ns:∀m,s.heap.Ns X.env.locals m->h'.Ns X.env.locals m) (hok:HOk X.prog X.w H' h') (hg:AllBare g'):
  Inv X pins σ H' {s with heap:=h',gens:=g',drawn:=d',toks:=t'}:=by
 have neL:∀b o,X.s₀.heap.get? b=some o->b≠X.env.locals:=λb o e=>Nat.ne_of_lt (Nat.lt_of_lt_of_le (Heap.lt_size e) I.ok.above)
 have neC:∀b o,X.s₀.heap.get? b=some o->b ∉ X.ex->b ∉ ch:=λb o e hx hb=>by
  rcases (hch b hb).1 with z | z
  ·exact hx z
  ·exact absurd (Nat.lt_of_lt_of_le (Heap.lt_size e) z) (Nat.lt_irrefl _)
 have cellK:∀x c,X.env.cells.lookup x=some c->∀v,s.heap.IsCell c v->h'.IsCell c v:=λx c e v ⟨o,ho,hd⟩=>by
  have nch:c ∉ ch:=λz=>(hch c z).2.2.1 x c e rfl
  by_cases hc:c∈X.fs
  ·obtain ⟨sl,q⟩:=slot c o (I.cne x c e) hc nch ho (I.Jm x c e);exact ⟨_,q,hd⟩
  ·exact ⟨o,keep c o (I.cne x c e) hc nch ho (I.Jm x c e),hd⟩
 refine ⟨I.ok,I.os,hg,⟨λb o e n hb hx=> ?_,λb o e n hb hx=> ?_,λb o e n hx=> ?_,λb o e hx=> ?_,λb xs e=>tups b xs (I.base.tups b xs e),λb o xs e=>frzs b o xs (I.base.frzs b o xs e),λb ps e=> ?_⟩,?_,λx c e=> ?_,?_,λx c e=> ?_,λp hp=> ?_,hok,I.len⟩
 ·exact keep b o (neL b o e) hb (neC b o e hx) (I.base.keep b o e n hb hx) (I.base.free b o e n hx)
 ·obtain ⟨sl,e1⟩:=I.base.slot b o e n hb hx;obtain ⟨sl',e2⟩:=slot b _ (neL b o e) hb (neC b o e hx) e1 (I.base.free b o e n hx);exact ⟨sl',e2⟩
 ·obtain ⟨o',e1⟩:=I.base.there b o e hx;exact free b o' (neC b o e hx) e1 (I.base.free b o e n hx)
 ·obtain ⟨o',e1⟩:=I.base.there b o e hx;exact there b o' (neC b o e hx) e1
 ·obtain ⟨m1,e1⟩:=I.base.tbls b ps e;obtain ⟨m2,e2⟩:=tbls b _ e1;exact ⟨m1++m2,by rw [e2,Array.append_assoc]⟩
 ·obtain ⟨m,hn,hl⟩:=I.loc;refine ⟨m,ns m hn,λi x v e1 e2 e3=> ?_⟩;obtain ⟨u,r,l⟩:=hl i x v e1 e2 e3;refine ⟨u,r,?_⟩;rcases l with l | ⟨k,c,e,z⟩
  ·exact .inl l
  ·exact .inr ⟨k,c,e,cellK x c e _ z⟩
 ·obtain ⟨v,z⟩:=I.cell x c e;exact ⟨v,cellK x c e v z⟩
 ·obtain ⟨m,⟨o,_,_,ho,_⟩,_⟩:=I.loc;exact free _ o (λz=>(hch _ z).2.1 rfl) ho I.free
 ·obtain ⟨v,o,ho,hd⟩:=I.cell x c e;exact free c o (λz=>(hch c z).2.2.1 x c e rfl) ho (I.Jm x c e)
 ·obtain ⟨e,n,ne,nf,d⟩:=I.pin p hp;have nch:p.1 ∉ ch:=λz=>(hch p.1 z).2.2.2 p hp rfl
  exact ⟨keep p.1 p.2 ne nf nch e n,free p.1 p.2 nch e n,ne,nf,d⟩
theorem Inv.un (I:Inv X pins σ H s) (u:Un X.fs [] H H' s.heap h') (hok:HOk X.prog X.w H' h'):Inv X pins σ H' {s with heap:=h',toks:=t'}:=by
 obtain ⟨m,⟨o,es,ep,ho,r⟩,_⟩:=id I.loc;obtain ⟨sl,hL⟩:=u.any ho I.free (by simp)
 exact I.step (g':=s.gens) (d':=s.drawn) (ch:= []) (λ_ z=>nomatch z) (λb o _ hb _ e n=>u.keep b o e n hb (by simp)) (λb o _ hb _ e n=>u.slot b o e n hb (by simp)) (λb o _ e n=>u.free b o e n (by simp)) (λb o _ e=>u.there b o e (by simp)) u.tups u.frzs u.tbls (λm' hm=>by obtain ⟨o',es',ep',ho',r'⟩:=hm;rw [ho] at ho';cases ho';exact ⟨_,es',ep',hL,r'⟩) hok I.bare
theorem Inv.call {g':Array GenState} {d':Drawn} (I:Inv X pins σ H s) (u:Un (frs X.stack) ch H H' s.heap h') (hok:HOk X.prog X.w H' h') (hg:AllBare g')
  (hch:∀b∈ch,(b∈X.ex∨X.s₀.heap.objs.size<=b)/\b≠X.env.locals/\(∀x c,X.env.cells.lookup x=some c->c≠b)/\∀p∈X.pn++pins,p.1≠b):
  Inv X pins σ H' {s with heap:=h',gens:=g',drawn:=d',toks:=t'}:=by
 obtain ⟨m,⟨o,es,ep,ho,r⟩,_⟩:=id I.loc;obtain ⟨sl,hL⟩:=u.any ho I.free λz=>(hch _ z).2.1 rfl
 exact I.step (ch:=ch) hch (λb o hL hb hc e n=>u.keep b o e n (λz=>(List.mem_cons.mp (I.Y6 b z)).elim hL hb) hc) (λb o _ _ hc e n=>u.any e n hc) (λb o hc e n=>u.free b o e n hc) (λb o hc e=>u.there b o e hc) u.tups u.frzs u.tbls (λm' hm=>by obtain ⟨o',es',ep',ho',r'⟩:=hm;rw [ho] at ho';cases ho';exact ⟨_,es',ep',hL,r'⟩) hok hg
theorem Inv.turned {it:Addr} (I:Inv X pins σ H s) (k:∀b o,b≠it->s.heap.get? b=some o->h'.get? b=some o) (hn:H it=none) (hL:it≠X.env.locals)
  (h1:it∈X.ex∨X.s₀.heap.objs.size<=it) (h2:∀x c,X.env.cells.lookup x=some c->c≠it) (h3:∀p∈X.pn++pins,p.1≠it):Inv X pins σ H {s with heap:=h',toks:=t'}:=by
 have nit:∀b u,H b=some u->b≠it:=λb u e z=>by rw [z,hn] at e;cases e
 refine I.step (g':=s.gens) (d':=s.drawn) (ch:= [it]) (λb hb=> ?_) (λb o _ _ hc e _=>k b o (λz=>hc (by simp [z])) e) (λb o _ _ hc e _=>⟨o.slots,k b o (λz=>hc (by simp [z])) e⟩) (λ_ _ _ _ n=>n)
  (λb o hc e=>⟨o,k b o (λz=>hc (by simp [z])) e⟩) (λ_ _ e=>e) (λ_ _ _ e=>e) (λb ps e=>⟨#[],by rw [e];simp⟩) (λm hm=> ?_) (λb u e=> ?_) I.bare
 ·have e:b=it:=by simpa using hb
  subst e;exact ⟨h1,hL,h2,h3⟩
 ·obtain ⟨o,es,ep,ho,r⟩:=hm;exact ⟨o,es,ep,k _ o (Ne.symm hL) ho,r⟩
 ·refine (I.hok b u e).stay (λc v hc q=>k c v ?_ q) (λ_ q=>q) λ_ _ q=>q
  rcases hc with z | z
  ·rw [z];exact nit b u e
  ·exact nit c _ z
theorem Inv.tok (I:Inv X pins σ H s) (t:Nat):Inv X pins σ H {s with toks:=t}:=I.un (h':=s.heap) (t':=t) Un.refl I.hok
theorem Inv.kept (I:Inv X pins σ H s) (k:∀b u,s.heap.get? b=some u->h'.get? b=some u):Inv X pins σ H {s with heap:=h',toks:=t'}:=I.un (Un.kept k) (I.hok.kept k)
theorem Inv.laid (I:Inv X pins σ H s) (k:∀b u,s.heap.get? b=some u->h'.get? b=some u) (hp:s.heap.objs.size<=a) (new:ObjOk X.prog X.w (upd H a o) h' a o):
  Inv X pins σ (upd H a o) {s with heap:=h',toks:=t'}:=I.un (Un.laid k hp (I.hok.fresh hp)) (I.hok.laid k hp new)
theorem Inv.write {x e:Addr} (I:Inv X pins σ H s) (mu:Mut (H x)) (he:e=x∨H e=some (.own x)) (k:∀b u,b≠e->s.heap.get? b=some u->h'.get? b=some u) (heo:∃u,h'.get? e=some u)
  (new:ObjOk X.prog X.w (upd H x o) h' x o):Inv X pins σ (upd H x o) {s with heap:=h',toks:=t'}:=I.un (Un.write mu he k heo) (I.hok.write mu he k heo new)
theorem Inv.M4 {pins':List (Addr×Obj)} (I:Inv X pins σ H s) (h:∀p∈pins',s.heap.get? p.1=some p.2/\H p.1=none/\p.1≠X.env.locals/\p.1 ∉ X.fs/\∀v,p.2.data≠ .cell v):Inv X pins' σ H s:=
 ⟨I.ok,I.os,I.bare,I.base,I.loc,I.cell,I.free,I.Jm,λp hp=>(List.mem_append.mp hp).elim (λz=>I.pin p (List.mem_append_left _ z)) (h p),I.hok,I.len⟩
theorem ZF2 {N:List Str} (hN:N.Nodup) {j:Nat} (a:N[i]? =some x) (b:N[j]? =some x):i=j:=by obtain ⟨h1,e1⟩:=List.getElem?_eq_some_iff.mp a;obtain ⟨h2,e2⟩:=List.getElem?_eq_some_iff.mp b;exact (List.getElem_inj hN).mp (e1.trans e2.symm)
theorem ZFi {M:Model} {A:Around} {E:Value->Shared->Prop} {Q:Unit->Shared->Prop} (I:Inv X pins σ H s) (hN:X.N.Nodup) (hi:X.N[i]? =some x) (hx:Loc X.env.scope x) (r:RelV v u)
  (h:∀s',Inv X pins (σ.set i (some v)) H s'->(∃a,Heap.SameBut a s.heap s'.heap/\(a=X.env.locals∨X.env.cells.lookup x=some a))->Q () s') (hf:X.fn x=true∨X.env.scope.names.lookup x=some .local:=by first | exact .inl rfl | exact .inr rfl | assumption):wpAny M A (storeName X.env x u) Q E s:=by
 obtain ⟨m,hn,hl⟩:=id I.loc;have hcls:(X.env.scope.kind == .class || (X.env.scope.kind == .module && X.env.locals != X.env.globals))=false:=by rw [I.ok.kind];rfl
 have hiσ:i < σ.length:=by rw [I.len];exact (List.getElem?_eq_some_iff.mp hi).1
 have cne:=I.cne;have tracked:∀{a:Addr} {h':Heap},(∃o,s.heap.get? a=some o/\H a=none)->Heap.SameBut a s.heap h'->HOk X.prog X.w H h':=λ{a h'} ha hs b ob e=>by
  obtain ⟨_,_,hfree⟩:=ha;refine (I.hok b ob e).stay (λc w' hc q=>(hs.2 c ?_).trans q) (λ_ q=>q) λ_ _ q=>q
  rintro rfl;rcases hc with rfl | hc
  ·rw [hfree] at e;cases e
  ·rw [hfree] at hc;cases hc
 rcases hx with hk | hk
 ·refine wpAny_storeName_local hk hn (λh' hn' hs=> ?_) hcls;obtain ⟨oL,_,_,hoL,_⟩:=id hn;refine h _ ⟨I.ok,I.os,I.bare,⟨λb o e n hb hx=> ?_,λb o e n hb hx=> ?_,I.base.free,λb o e hx=> ?_,I.base.tups,I.base.frzs,I.base.tbls⟩,⟨_,hn',λj y v' e1 e2 e3=> ?_⟩,λy c e=> ?_,I.free,I.Jm,λp hp=> ?_,tracked ⟨oL,hoL,I.free⟩ hs,by simpa using I.len⟩ ⟨_,hs,.inl rfl⟩
  ·exact (hs.2 b (Nat.ne_of_lt (Nat.lt_of_lt_of_le (Heap.lt_size e) I.ok.above))).trans (I.base.keep b o e n hb hx)
  ·obtain ⟨sl,e1⟩:=I.base.slot b o e n hb hx;exact ⟨sl,(hs.2 b (Nat.ne_of_lt (Nat.lt_of_lt_of_le (Heap.lt_size e) I.ok.above))).trans e1⟩
  ·obtain ⟨o',e1⟩:=I.base.there b o e hx;exact ⟨o',(hs.2 b (Nat.ne_of_lt (Nat.lt_of_lt_of_le (Heap.lt_size e) I.ok.above))).trans e1⟩
  ·by_cases hj:j=i
   ·subst hj;rw [hi] at e1;cases e1;rw [List.getElem?_set_self hiσ] at e2;cases e2;exact ⟨u,r,.inl ⟨hk,by simp⟩⟩
   ·rw [List.getElem?_set_ne (Ne.symm hj)] at e2;obtain ⟨u',r',q⟩:=hl j y v' e1 e2 e3;refine ⟨u',r',?_⟩;rcases q with ⟨k,e⟩ | ⟨k,c,e,z⟩
    ·refine .inl ⟨k,?_⟩;have:y≠x:=λe=>hj (ZF2 hN e1 (e ▸ hi))
     simp [this,e]
    ·exact .inr ⟨k,c,e,z.sameBut hs (cne y c e)⟩
  ·obtain ⟨w',z⟩:=I.cell y c e;exact ⟨w',z.sameBut hs (cne y c e)⟩
  ·obtain ⟨e,n,ne,nf,d⟩:=I.pin p hp;exact ⟨(hs.2 p.1 ne).trans e,n,ne,nf,d⟩
 ·have hfn:X.fn x=true:=by
   rcases hf with z | z
   ·exact z
   ·rw [z] at hk;cases hk
  obtain ⟨c,hc⟩:=I.ok.has x (.inl hk);obtain ⟨w',z⟩:=I.cell x c hc;refine wpAny_storeName_cell I.ok.kind hk hc z (λh' hc' hs=> ?_);obtain ⟨oc,hoc,hocd⟩:=id z;refine h {s with heap:=h'} ⟨I.ok,I.os,I.bare,⟨λb o e n hb hx=> ?_,λb o e n hb hx=> ?_,I.base.free,λb o e hx=> ?_,I.base.tups,I.base.frzs,I.base.tbls⟩,⟨m,hn.sameBut hs (Ne.symm (cne x c hc)),λj y v' e1 e2 e3=> ?_⟩,λy c' e=> ?_,I.free,I.Jm,λp hp=> ?_,tracked ⟨oc,hoc,I.Jm x c hc⟩ hs,by simpa using I.len⟩ ⟨c,hs,.inr hc⟩
  ·exact (hs.2 b (Nat.ne_of_lt (Nat.lt_of_lt_of_le (Heap.lt_size e) (I.ok.cab x c hfn hc)))).trans (I.base.keep b o e n hb hx)
  ·obtain ⟨sl,e1⟩:=I.base.slot b o e n hb hx;exact ⟨sl,(hs.2 b (Nat.ne_of_lt (Nat.lt_of_lt_of_le (Heap.lt_size e) (I.ok.cab x c hfn hc)))).trans e1⟩
  ·obtain ⟨o',e1⟩:=I.base.there b o e hx;exact ⟨o',(hs.2 b (Nat.ne_of_lt (Nat.lt_of_lt_of_le (Heap.lt_size e) (I.ok.cab x c hfn hc)))).trans e1⟩
  ·by_cases hj:j=i
   ·subst hj;rw [hi] at e1;cases e1;rw [List.getElem?_set_self hiσ] at e2;cases e2;exact ⟨u,r,.inr ⟨.inl hk,c,hc,hc'⟩⟩
   ·rw [List.getElem?_set_ne (Ne.symm hj)] at e2;obtain ⟨u',r',q⟩:=hl j y v' e1 e2 e3;refine ⟨u',r',?_⟩;rcases q with q | ⟨k,c',e,z'⟩
    ·exact .inl q
    ·refine .inr ⟨k,c',e,z'.sameBut hs ?_⟩;rintro rfl;exact hj (ZF2 hN e1 (I.ok.inj _ _ _ e hc ▸ hi))
  ·by_cases hcc:c'=c
   ·subst hcc;exact ⟨_,hc'⟩
   ·obtain ⟨w2,z2⟩:=I.cell y c' e;exact ⟨w2,z2.sameBut hs hcc⟩
  ·obtain ⟨e,n,ne,nf,d⟩:=I.pin p hp;refine ⟨(hs.2 p.1 ?_).trans e,n,ne,nf,d⟩;intro q;rw [q,hoc] at e;have q':oc=p.2:=Option.some.inj e;exact d w' (by rw [<-q'];exact hocd)
theorem ZAN {M:Model} {A:Around} {E:Value->Shared->Prop} {Q:Unit->Shared->Prop} (I:Inv X pins σ H s) (hN:X.N.Nodup) (hi:X.N[i]? =some x) (hx:Loc X.env.scope x) (r:RelV v u)
  (h:∀s',Inv X pins (σ.set i (some v)) H s'->Q () s') (hf:X.fn x=true∨X.env.scope.names.lookup x=some .local:=by first | exact .inl rfl | exact .inr rfl | assumption):wpAny M A (storeName X.env x u) Q E s:=
 ZFi I hN hi hx r (λs' I' _=>h s' I') hf
theorem Inv.call' {s':Shared} (I:Inv X pins σ H s) (ho:s'.os=s.os) (u:Un (frs X.stack) ch H H' s.heap s'.heap) (hok:HOk X.prog X.w H' s'.heap) (hg:AllBare s'.gens)
  (hch:∀b∈ch,(b∈X.ex∨X.s₀.heap.objs.size<=b)/\b≠X.env.locals/\(∀x c,X.env.cells.lookup x=some c->c≠b)/\∀p∈X.pn++pins,p.1≠b):Inv X pins σ H' s':=by
 obtain ⟨h',g',d',t',o'⟩:=s';have e:o'=s.os:=ho;subst e;exact I.call (g':=g') (t':=t') (d':=d') u hok hg hch
end
noncomputable abbrev XK:=Value->Option Addr->Hp->Prop
noncomputable abbrev St:=List (Option V)
variable {σ:St}
noncomputable abbrev VK:=V->Hp->Prop
noncomputable abbrev TE:=St->Hp->VK->Prop
variable {t te:TE}
noncomputable abbrev TT:=St->Hp->(Bool->Hp->Prop)->Prop
noncomputable abbrev TA:=St->Hp->(List V->Hp->Prop)->Prop
structure Ends where
 nx:St->Hp->Prop
 rt:VK
 bk:St->Hp->Prop:=λ_ _=>False
 ct:St->Hp->Prop:=λ_ _=>False
noncomputable abbrev TS:=Ends->St->Hp->Prop
noncomputable def EP (X:Cx) (pins:List (Addr×Obj)) (σ:St) (Q:VK) (u:Value) (s':Shared):Prop:=∃v H',Inv X pins σ H' s'/\RelV v u/\Q v H'
noncomputable def TP (X:Cx) (pins:List (Addr×Obj)) (σ:St) (Q:Bool->Hp->Prop) (b:Bool) (s':Shared):Prop:=∃H',Inv X pins σ H' s'/\Q b H'
noncomputable def AP (X:Cx) (pins:List (Addr×Obj)) (σ:St) (Q:List V->Hp->Prop) (us:List Value) (s':Shared):Prop:=∃vs H',Inv X pins σ H' s'/\Vals vs us/\Q vs H'
noncomputable def SP (X:Cx) (pins:List (Addr×Obj)) (D:Ends) (f:Flow) (s':Shared):Prop:=
 match f with
 | .next=>∃σ' H',Inv X pins σ' H' s'/\D.nx σ' H'
 | .brk=>∃σ' H',Inv X pins σ' H' s'/\D.bk σ' H'
 | .cont=>∃σ' H',Inv X pins σ' H' s'/\D.ct σ' H'
 | .ret u=>∃v σ' H',Inv X pins σ' H' s'/\RelV v u/\D.rt v H'
noncomputable def PE (X:Cx) (e:Expr) (t:TE):Prop:=
 ∀(pins:List (Addr×Obj)) (s:Shared) (σ:St) (H:Hp) (Q:VK),Inv X pins σ H s->t σ H Q->wpAny (model X.prog X.w) X.A (eval e X.env) (EP X pins σ Q) X.xe s
noncomputable def PT (X:Cx) (e:Expr) (t:TT):Prop:=
 ∀(pins:List (Addr×Obj)) (s:Shared) (σ:St) (H:Hp) (Q:Bool->Hp->Prop),Inv X pins σ H s->t σ H Q->wpAny (model X.prog X.w) X.A (isTrue e X.env (eval e X.env)) (TP X pins σ Q) X.xe s
noncomputable def PW (X:Cx) (e:Expr) (t:TT):Prop:=
 ∀(whole:Sem Value) (pins:List (Addr×Obj)) (s:Shared) (σ:St) (H:Hp) (Q:Bool->Hp->Prop),Inv X pins σ H s->t σ H Q->wpAny (model X.prog X.w) X.A (isTrue e X.env whole) (TP X pins σ Q) X.xe s
theorem PW.pt {t:TT} (h:PW X e t):PT X e t:=h _
noncomputable def PA (X:Cx) (es:List Expr) (t:TA):Prop:=
 ∀(pos:Pos) (pins:List (Addr×Obj)) (s:Shared) (σ:St) (H:Hp) (Q:List V->Hp->Prop),Inv X pins σ H s->t σ H Q->wpAny (model X.prog X.w) X.A (spliced (backTo pos (starEach es X.env))) (AP X pins σ Q) X.xe s
noncomputable def PS (X:Cx) (st:Stmt) (t:TS):Prop:=
 ∀(pins:List (Addr×Obj)) (s:Shared) (σ:St) (H:Hp) (D:Ends),Inv X pins σ H s->t D σ H->wpAny (model X.prog X.w) X.A (exec st X.env) (SP X pins D) X.xe s
noncomputable def PSs (X:Cx) (st:List Stmt) (t:TS):Prop:=
 ∀(pins:List (Addr×Obj)) (s:Shared) (σ:St) (H:Hp) (D:Ends),Inv X pins σ H s->t D σ H->wpAny (model X.prog X.w) X.A (execs st X.env) (SP X pins D) X.xe s
theorem thn {α:Type} {t:Sem α} {Q Q':α->Shared->Prop} {M:Model} (h:wpAny M A t Q E s) (hQ:∀a s,Q a s->Q' a s):wpAny M A t Q' E s:=wpAny_mono h hQ λ_ _ x=>x
section
variable {X:Cx}
theorem bin {a b:Expr} {ta tb:TE} (ha:PE X a ta) (hb:PE X b tb) {R:V->V->Hp->Prop} (I:Inv X pins σ H s) (h:ta σ H λx H1=>tb σ H1 λy H2=>R x y H2)
  {α:Type} {Q:α->Shared->Prop} {f:Value->Value->Sem α}
  (hf:∀v u s2 x y H2,Inv X pins σ H2 s2->RelV x v->RelV y u->R x y H2->wpAny (model X.prog X.w) X.A (f v u) Q X.xe s2):
  wpAny (model X.prog X.w) X.A (eval a X.env) (λv s₁=>wpAny (model X.prog X.w) X.A (eval b X.env) (λu s₂=>wpAny (model X.prog X.w) X.A (f v u) Q X.xe s₂) X.xe s₁) X.xe s:=by
 refine thn (ha pins s σ H _ I h) λv s1 ⟨x,H1,I1,r1,q1⟩=> ?_
 refine thn (hb pins s1 σ H1 _ I1 q1) λu s2 ⟨y,H2,I2,r2,q2⟩=> ?_
 exact hf v u s2 x y H2 I2 r1 r2 q2
noncomputable def tVar (i:Nat):TE:=λσ H Q=>∃v,σ[i]? =some (some v)/\Q v H
noncomputable def tC (v:V):TE:=λ_ H Q=>Q v H
theorem ZPs {pos:Pos} (hN:X.N[i]? =some x) (hv:Vis X.env.scope x) (hd:(x == ("__debug__":Str))=false:=by decide) (hcd:(x == ("__classdict__":Str))=false:=by decide):PE X (.Name x pos) (tVar i):=by
 intro pins s σ H Q I h;obtain ⟨v,e,h⟩:=h;obtain ⟨m,hn,hl⟩:=I.loc;obtain ⟨u,r,l⟩:=hl i x v hN e hv;have fin:EP X pins σ Q u s:=⟨v,H,I,r,h⟩;rcases l with ⟨hk,hm⟩ | ⟨hk,c,hc,hcell⟩
 ·exact wpAny_Name (wpAny_loadName_local I.ok.kind hk hn hm fin) hd
 ·rcases hk with hk | hk
  ·exact wpAny_Name (wpAny_loadName_cell I.ok.kind hk hc hcell fin) hd
  ·exact wpAny_Name (wpAny_loadName_free I.ok.kind hk hc hcell fin hcd) hd
theorem ZMl {i j pos}:PE X (.Constant (.int i) j pos) (tC (.int i)):=λ_ _ _ H _ I h=>wpAny_Constant_int ⟨.int i,H,I.tok _,⟨_,rfl⟩,h⟩
theorem ZNN {b j pos}:PE X (.Constant (.bool b) j pos) (tC (.bl b)):=λ_ _ _ H _ I h=>Constant_bool ⟨.bl b,H,I,rfl,h⟩
theorem ZMz {j pos}:PE X (.Constant .none j pos) (tC .non):=λ_ _ _ H _ I h=>Constant_none ⟨.non,H,I,rfl,h⟩
theorem ZOd {x j pos}:PE X (.Constant (.str x) j pos) (tC (.str x)):=λ_ _ _ H _ I h=>Calls.Constant_str ⟨.str x,H,I.tok _,⟨_,rfl⟩,h⟩
noncomputable def Gl (X:Cx) (x:Str):Prop:=X.env.kindOf x=some .globalImplicit
theorem ZAe {E:Value->Shared->Prop} {pos:Pos} (I:Inv X pins σ H s) (hg:Gl X x) (hm:X.mg x=some u) (h:Q u s)
  (hd:(x == ("__debug__":Str))=false:=by decide):wpAny (model X.prog X.w) X.A (eval (.Name x pos) X.env) Q E s:=
 Calls.Name_function_global I.ok.kind hg (Calls.loadGlobal_global (by rw [I.ok.glob];exact I.mod.glob.keeps I.bk) hm h) hd
theorem Jk {E:Value->Shared->Prop} {pos:Pos} (I:Inv X pins σ H s) (hg:Gl X x) (hm:X.mg x=none) (hv:bootBuiltins x=some u) (h:Q u s)
  (hn:x≠"__name__":=by decide) (hd:(x == ("__debug__":Str))=false:=by decide):wpAny (model X.prog X.w) X.A (eval (.Name x pos) X.env) Q E s:=by
 obtain ⟨mb,h1,h2⟩:=I.mod.blt;exact Calls.Name_function_global I.ok.kind hg (Calls.loadGlobal_builtin (by rw [I.ok.glob];exact I.mod.glob.keeps I.bk) hm (by rw [I.ok.blt];exact h1.keeps I.bk) ((h2 x hn).trans hv) h) hd
theorem ZMR {pos:Pos} (hg:Gl X x) (hm:X.mg x=some u) (r:RelV v u) (hd:(x == ("__debug__":Str))=false:=by decide):PE X (.Name x pos) (tC v):=
 λ_ _ _ H _ I h=>ZAe I hg hm ⟨v,H,I,r,h⟩ hd
theorem ZPJ {pos:Pos} (hg:Gl X x) (hm:X.mg x=none) (hv:bootBuiltins x=some u) (r:RelV v u) (hn:x≠"__name__":=by decide) (hd:(x == ("__debug__":Str))=false:=by decide):PE X (.Name x pos) (tC v):=
 λ_ _ _ H _ I h=>Jk I hg hm hv ⟨v,H,I,r,h⟩ hn hd
variable {a b:Expr} {ta tb:TE} {pos:Pos}
noncomputable def PC (X:Cx) (op:CmpOp) (a b:Expr) (t:TE):Prop:=
 ∀(pins:List (Addr×Obj)) (s:Shared) (σ:St) (H:Hp) (Q:VK),Inv X pins σ H s->t σ H Q->
  wpAny (model X.prog X.w) X.A (eval a X.env) (λv s₁=>wpAny (model X.prog X.w) X.A (eval b X.env) (λu s₂=>wpAny (model X.prog X.w) X.A (compareOp op v u) (EP X pins σ Q) X.xe s₂) X.xe s₁) X.xe s
theorem nobehind (b:Expr) (h:op≠ .In) (h2:op≠ .NotIn):behindInMarks op b=false:=by
 have e1:(op == CmpOp.In)=false:=by cases op <;> first | rfl | exact absurd rfl h
 have e2:(op == CmpOp.NotIn)=false:=by cases op <;> first | rfl | exact absurd rfl h2
 cases b <;> simp [behindInMarks,e1,e2]
noncomputable def tB (t:TE):TT:=λσ H Q=>t σ H λx H1=>∃c,x=.bl c/\Q c H1
theorem pt_cmp (h:PC X op a b t) (h1:behindInMarks op b=false:=by first | exact nobehind _ (by decide) (by decide) | rfl):PT X (.Compare a [op] [b] pos) (tB t):=by intro pins s σ H Q I hw;refine wpAny_isTrue_Compare1 (thn (h pins s σ H _ I hw) λv s1 h1=>thn h1 λu s2 h2=>thn h2 λc s3 ⟨x,H1,I1,r1,q1⟩=> ?_) h1;obtain ⟨d,rfl,q⟩:=q1;cases r1;exact wpAny_truthy_bool ⟨H1,I1,q⟩
theorem ZL4 (h:PE X e t) (he:∀whole,isTrue e X.env whole=(do let v<-whole;standAt e.pos;holding [v] (truthy v)):=by intro _;rfl):PT X e (tB t):=by intro pins s σ H Q I hw;refine isTrue_plain (thn (h pins s σ H _ I hw) λv s1 ⟨x,H1,I1,r1,q1⟩=> ?_) (he _);obtain ⟨d,rfl,q⟩:=q1;cases r1;exact wpAny_truthy_bool ⟨H1,I1,q⟩
variable {tA tB':TT} {rest:List Expr}
noncomputable def tAnd (t u:TT):TT:=λσ H Q=>t σ H λc H1=>if c=true then u σ H1 Q else Q false H1
noncomputable def tOr (t u:TT):TT:=λσ H Q=>t σ H λc H1=>if c=true then Q true H1 else u σ H1 Q
noncomputable def tNot (t:TT):TT:=λσ H Q=>t σ H λc H1=>Q (!c) H1
theorem pw_and1 (ha:PT X a tA):PW X (.BoolOp .And [a] pos) tA:=by
 intro wh pins s σ H Q I h;refine isTrue_and (thn (ha pins s σ H Q I h) λc s1 e=> ?_);cases c with
 | true=>exact isTrue_and_nil e
 | false=>exact e
theorem pw_or1 (ha:PT X a tA):PW X (.BoolOp .Or [a] pos) tA:=by
 intro wh pins s σ H Q I h;refine isTrue_or (thn (ha pins s σ H Q I h) λc s1 e=> ?_);cases c with
 | false=>exact isTrue_or_nil e
 | true=>exact e
theorem pw_and (ha:PT X a tA) (hb:PW X (.BoolOp .And (b::rest) pos) tB'):PW X (.BoolOp .And (a::b::rest) pos) (tAnd tA tB'):=by
 intro wh pins s σ H Q I h;refine isTrue_and (thn (ha pins s σ H _ I h) λc s1 ⟨H1,I1,q1⟩=> ?_);cases c with
 | true=>exact hb wh pins s1 σ H1 Q I1 q1
 | false=>exact ⟨H1,I1,q1⟩
theorem pw_or (ha:PT X a tA) (hb:PW X (.BoolOp .Or (b::rest) pos) tB'):PW X (.BoolOp .Or (a::b::rest) pos) (tOr tA tB'):=by
 intro wh pins s σ H Q I h;refine isTrue_or (thn (ha pins s σ H _ I h) λc s1 ⟨H1,I1,q1⟩=> ?_);cases c with
 | true=>exact ⟨H1,I1,q1⟩
 | false=>exact hb wh pins s1 σ H1 Q I1 q1
theorem ZKw (ha:PT X a tA):PT X (.UnaryOp .Not a pos) (tNot tA):=by intro pins s σ H Q I h;exact isTrue_not (ha pins s σ H (λc H1=>Q (!c) H1) I h)
noncomputable def ZJk (ta tb:TE):TE:=λσ H Q=>ta σ H λx H1=>∃c,x=.bl c/\if c=true then tb σ H1 Q else Q (.bl false) H1
noncomputable def tOrV (ta tb:TE):TE:=λσ H Q=>ta σ H λx H1=>∃c,x=.bl c/\if c=true then Q (.bl true) H1 else tb σ H1 Q
noncomputable def ZIj (ta:TE):TE:=λσ H Q=>ta σ H λx H1=>∃c,x=.bl c/\Q (.bl (!c)) H1
theorem ZOK {op} (h:PE X a t):PE X (.BoolOp op [a] pos) t:=λpins s σ H Q I hw=>BoolOp_one (h pins s σ H Q I hw)
theorem ZMo (ha:PE X a ta) (hb:PE X (.BoolOp .And (b::rest) pos) tb):PE X (.BoolOp .And (a::b::rest) pos) (ZJk ta tb):=by
 intro pins s σ H Q I h;refine BoolOp_and (thn (ha pins s σ H _ I h) λv s1 ⟨x,H1,I1,r1,q1⟩=> ?_);obtain ⟨c,rfl,q1⟩:=q1;cases r1;refine wpAny_truthy_bool ?_;cases c with
 | true=>exact hb pins s1 σ H1 Q I1 q1
 | false=>exact ⟨.bl false,H1,I1,rfl,q1⟩
theorem ZOc (ha:PE X a ta) (hb:PE X (.BoolOp .Or (b::rest) pos) tb):PE X (.BoolOp .Or (a::b::rest) pos) (tOrV ta tb):=by
 intro pins s σ H Q I h;refine BoolOp_or (thn (ha pins s σ H _ I h) λv s1 ⟨x,H1,I1,r1,q1⟩=> ?_);obtain ⟨c,rfl,q1⟩:=q1;cases r1;refine wpAny_truthy_bool ?_;cases c with
 | false=>exact hb pins s1 σ H1 Q I1 q1
 | true=>exact ⟨.bl true,H1,I1,rfl,q1⟩
theorem ZO8 (ha:PE X a ta):PE X (.UnaryOp .Not a pos) (ZIj ta):=by intro pins s σ H Q I h;refine UnaryOp_ (thn (ha pins s σ H _ I h) λv s1 ⟨x,H1,I1,r1,q1⟩=> ?_);obtain ⟨c,rfl,q1⟩:=q1;cases r1;exact not_of (wpAny_truthy_bool ⟨.bl (!c),H1,I1,rfl,q1⟩)
noncomputable def tIf (t:TT) (ta tb:TE):TE:=λσ H Q=>t σ H λc H1=>if c=true then ta σ H1 Q else tb σ H1 Q
theorem ZKI (hc:PT X c tA) (ha:PE X a ta) (hb:PE X b tb):PE X (.IfExp c a b pos) (tIf tA ta tb):=by
 intro pins s σ H Q I h;refine wpAny_IfExp (thn (hc pins s σ H _ I h) λd s1 ⟨H1,I1,q1⟩=> ?_);cases d with
 | true=>exact ha pins s1 σ H1 Q I1 q1
 | false=>exact hb pins s1 σ H1 Q I1 q1
end
noncomputable def SqL (K:PySem.W.Frag) (H:Hp) (a:Addr) (xs:List V):Prop:=
 Rd H a (.lst xs)∨
  ∃(o:Obj) (its:Array Value) (n:Nat),K.lookup a=some o/\o.cls=.type "list"/\o.dict=none/\o.data=.seq its n/\its.size<=sizeLine/\Vals xs its.toList
noncomputable def SqT (K:PySem.W.Frag) (H:Hp) (a:Addr) (xs:List V):Prop:=
 Rd H a (.tup xs)∨
  ∃(o:Obj) (its:Array Value) (n:Nat),K.lookup a=some o/\o.cls=.type "tuple"/\o.data=.seq its n/\its.size<=sizeLine/\Vals xs its.toList
noncomputable def absV:Value->Option V
 | .none=>some .non
 | .bool b=>some (.bl b)
 | .int i _=>some (.int i)
 | .str x _=>some (.str x)
 | .bytes b _=>some (.byt b)
 | .float b _=>some (.flt b)
 | .ref a=>some (.ref a)
 | .type n=>some (.ty n)
 | _=>none
theorem RelV.abs {x:V} (r:RelV x u):absV u=some x:=by
 cases x with
 | non=>cases r;rfl
 | bl _=>cases r;rfl
 | int _=>obtain ⟨t,rfl⟩:=r;rfl
 | str _=>obtain ⟨t,rfl⟩:=r;rfl
 | byt _=>obtain ⟨t,rfl⟩:=r;rfl
 | flt _=>obtain ⟨t,rfl⟩:=r;rfl
 | ref _=>cases r;rfl
 | ty _=>cases r;rfl
theorem RelV.inj {x:V} (r:RelV x u) (q:RelV y u):x=y:=Option.some.inj (r.abs.symm.trans q.abs)
theorem Vals.inj:∀{xs ys:List V} {us:List Value},Vals xs us->Vals ys us->xs=ys
 | _,_,_,.nil,.nil=>rfl
 | _,_,_,.cons r t,.cons r' t'=>by rw [r.inj r',Vals.inj t t']
section
variable {X:Cx} {pins:List (Addr×Obj)} {σ:St} {H:Hp} {s:Shared} {a:Addr} {xs ys:List V}
theorem SqL.of (h:H a=some (.lst xs)):SqL K H a xs:=.inl (.inl h)
theorem SqT.of (h:H a=some (.tup xs)):SqT K H a xs:=.inl (.inl h)
theorem Inv.list (I:Inv X pins σ H s) (h:SqL X.K H a xs):∃its:List Value,Vals xs its/\PlainL s.heap a its.toArray/\xs.length<=sizeLine:=by
 rcases h with h | ⟨o,its,n,hk,hc,hd,hs,hz,r⟩
 ·obtain ⟨z,its,n,r,e⟩:=h.ok I.hok;exact ⟨its,r,⟨_,n,e,rfl,rfl,rfl⟩,z⟩
 ·refine ⟨its.toList,r,⟨o,n,I.kIn a o hk,hc,hd,by simpa using hs⟩,?_⟩;have e:=r.length;simp only [Array.length_toList] at e;lia
theorem Inv.tuple (I:Inv X pins σ H s) (h:SqT X.K H a xs):∃its:List Value,Vals xs its/\IsTup s.heap a its.toArray/\xs.length<=sizeLine:=by
 rcases h with h | ⟨o,its,n,hk,hc,hs,hz,r⟩
 ·obtain ⟨z,its,r,p⟩:=h.ok I.hok;exact ⟨its,r,p,z⟩
 ·refine ⟨its.toList,r,⟨o,I.kIn a o hk,hc,n,by simpa using hs⟩,?_⟩;have e:=r.length;simp only [Array.length_toList] at e;lia
theorem Inv.ZCg (I:Inv X pins σ H s) (h:SqL X.K H a xs) (h':SqL X.K H a ys):xs=ys:=by
 obtain ⟨its,r,⟨o,n,e,_,_,d⟩,_⟩:=I.list h;obtain ⟨its',r',⟨o',n',e',_,_,d'⟩,_⟩:=I.list h';rw [e] at e';cases e';rw [d] at d';injection d' with d1 _
 have:its=its':=by simpa using congrArg Array.toList d1
 subst this;exact r.inj r'
theorem Inv.Yj (I:Inv X pins σ H s) (h:SqT X.K H a xs) (h':SqT X.K H a ys):xs=ys:=by
 obtain ⟨its,r,⟨o,e,_,n,d⟩,_⟩:=I.tuple h;obtain ⟨its',r',⟨o',e',_,n',d'⟩,_⟩:=I.tuple h';rw [e] at e';cases e';rw [d] at d';injection d' with d1 _
 have:its=its':=by simpa using congrArg Array.toList d1
 subst this;exact r.inj r'
end
noncomputable abbrev Cx.wish (X:Cx) (E:Value->Shared->Prop):Cx:={X with xe:=E}
noncomputable abbrev Cx.nox (X:Cx):Cx:=X.wish λ_ _=>False
theorem Cx.Ok.wish (ok:X.Ok) (E:Value->Shared->Prop):(X.wish E).Ok:=
 ⟨ok.mod,ok.kind,ok.glob,ok.blt,ok.above,ok.inj,ok.has,ok.cab,ok.hd,ok.frames,ok.stk,ok.exf,ok.bs,ok.bsz,ok.noex,ok.exfs,ok.funs,ok.frf⟩
theorem Cx.Ok.unwish (ok:(X.wish E).Ok):X.Ok:=
 ⟨ok.mod,ok.kind,ok.glob,ok.blt,ok.above,ok.inj,ok.has,ok.cab,ok.hd,ok.frames,ok.stk,ok.exf,ok.bs,ok.bsz,ok.noex,ok.exfs,ok.funs,ok.frf⟩
section
variable {X:Cx} {pins:List (Addr×Obj)} {σ:St} {H:Hp} {s:Shared} {E:Value->Shared->Prop}
theorem Inv.wish (I:Inv X pins σ H s) (E:Value->Shared->Prop):Inv (X.wish E) pins σ H s:=⟨I.ok.wish E,I.os,I.bare,I.base,I.loc,I.cell,I.free,I.Jm,I.pin,I.hok,I.len⟩
theorem Inv.unwish (I:Inv (X.wish E) pins σ H s):Inv X pins σ H s:=⟨I.ok.unwish,I.os,I.bare,I.base,I.loc,I.cell,I.free,I.Jm,I.pin,I.hok,I.len⟩
theorem SP.unwish {D:Ends} {f:Flow} {s':Shared} (h:SP (X.wish E) pins D f s'):SP X pins D f s':=by
 cases f with
 | next=>obtain ⟨σ',H',I,q⟩:=h;exact ⟨σ',H',I.unwish,q⟩
 | brk=>obtain ⟨σ',H',I,q⟩:=h;exact ⟨σ',H',I.unwish,q⟩
 | cont=>obtain ⟨σ',H',I,q⟩:=h;exact ⟨σ',H',I.unwish,q⟩
 | ret u=>obtain ⟨v,σ',H',I,r,q⟩:=h;exact ⟨v,σ',H',I.unwish,r,q⟩
theorem PSs.nox {st:List Stmt} {t:TS} (h:PSs X.nox st t):PSs X st t:=λpins s σ H D I hw=>
 wpAny_mono (h pins s σ H D (I.wish _) hw) (λ_ _ q=>q.unwish) λ_ _ z=>False.elim z
end
section
variable {X:Cx} {st:Stmt} {rest:List Stmt} {t u:TS} {e:Expr} {te:TE} {pos:Pos}
noncomputable def ZM7:TS:=λD σ H=>D.nx σ H
noncomputable def tSeq (t u:TS):TS:=λD σ H=>t {D with nx:=u D} σ H
theorem ZH3:PSs X [] ZM7:=λ_ _ σ H _ I h=>wpAny_execs_nil ⟨σ,H,I,h⟩
theorem ZOj (h1:PS X st t) (h2:PSs X rest u):PSs X (st::rest) (tSeq t u):=by
 intro pins s σ H D I h;refine wpAny_execs_cons (thn (h1 pins s σ H {D with nx:=u D} I h) λf s1 q=> ?_);cases f with
 | next=>
  obtain ⟨σ',H',I',q⟩:=q;exact h2 pins s1 σ' H' D I' q
 | ret v=>exact q
 | brk=>exact q
 | cont=>exact q
theorem ZOU (h1:PS X st t):PSs X [st] t:=by
 intro pins s σ H D I h;refine wpAny_execs_cons (thn (h1 pins s σ H D I h) λf s1 q=> ?_);cases f with
 | next=>exact wpAny_execs_nil q
 | ret v=>exact q
 | brk=>exact q
 | cont=>exact q
theorem Inv.quiet (I:Inv X pins σ H s):interactive X.env=false:=by simp [interactive,I.ok.kind]
noncomputable def ZLX (te:TE):TS:=λD σ H=>te σ H λ_ H1=>D.nx σ H1
theorem ZOQ (he:PE X e te) (hs:swapsWith e none pos.line X.env=pure false:=by rfl):PS X (.Expr e pos) (ZLX te):=by intro pins s σ H D I h;exact wpAny_Expr_any (thn (he pins s σ H _ I h) λv s1 ⟨x,H1,I1,r1,q1⟩=>⟨σ,H1,I1,q1⟩) I.quiet hs
noncomputable def tRet (te:TE):TS:=λD σ H=>te σ H D.rt
theorem ZIY (he:PE X e te):PS X (.Return (some e) pos) (tRet te):=by intro pins s σ H D I h;exact wpAny_Return_some (thn (he pins s σ H _ I h) λv s1 ⟨x,H1,I1,r1,q1⟩=>⟨x,σ,H1,I1,r1,q1⟩)
noncomputable def tIfS (c:TT) (t u:TS):TS:=λD σ H=>c σ H λb H1=>if b=true then t D σ H1 else u D σ H1
theorem ZOk {a b:List Stmt} {tc:TT} (hc:PT X c tc) (ha:PSs X a t) (hb:PSs X b u):PS X (.If c a b pos) (tIfS tc t u):=by
 intro pins s σ H D I h;refine wpAny_If (thn (hc pins s σ H _ I h) λd s1 ⟨H1,I1,q1⟩=> ?_);cases d with
 | true=>exact ha pins s1 σ H1 D I1 q1
 | false=>exact hb pins s1 σ H1 D I1 q1
end
noncomputable abbrev TG:=V->St->Hp->(St->Hp->Prop)->Prop
noncomputable abbrev TGs:=List V->St->Hp->(St->Hp->Prop)->Prop
noncomputable def PG (X:Cx) (target:Expr) (t:TG):Prop:=
 ∀(pins:List (Addr×Obj)) (s:Shared) (σ:St) (H:Hp) (v:V) (u:Value) (Q:St->Hp->Prop),Inv X pins σ H s->RelV v u->t v σ H Q->
  wpAny (model X.prog X.w) X.A (assign target X.env u) (λ_ s'=>∃σ' H',Inv X pins σ' H' s'/\Q σ' H') X.xe s
noncomputable def PGs (X:Cx) (ts:List Expr) (t:TGs):Prop:=
 ∀(pins:List (Addr×Obj)) (s:Shared) (σ:St) (H:Hp) (vs:List V) (us:List Value) (Q:St->Hp->Prop),Inv X pins σ H s->Vals vs us->t vs σ H Q->
  wpAny (model X.prog X.w) X.A (assignInOrder ((assignEach ts X.env).map (·.2)) us) (λ_ s'=>∃σ' H',Inv X pins σ' H' s'/\Q σ' H') X.xe s
noncomputable abbrev TSet:=V->V->V->Hp->(Hp->Prop)->Prop
noncomputable def PSet (X:Cx) (t:TSet):Prop:=
 ∀(pins:List (Addr×Obj)) (s:Shared) (σ:St) (H:Hp) (o i v:V) (ov iv u:Value) (Q:Hp->Prop),Inv X pins σ H s->RelV o ov->RelV i iv->RelV v u->t o i v H Q->
  wpAny (model X.prog X.w) X.A (setItem ov iv u) (λ_ s'=>∃H',Inv X pins σ H' s'/\Q H') X.xe s
noncomputable abbrev TIp:=V->V->Hp->VK->Prop
noncomputable def PIp (X:Cx) (op:Operator) (t:TIp):Prop:=
 ∀(pins:List (Addr×Obj)) (s:Shared) (σ:St) (H:Hp) (x y:V) (v u:Value) (Q:VK),Inv X pins σ H s->RelV x v->RelV y u->t x y H Q->
  wpAny (model X.prog X.w) X.A (inplaceOp op v u) (EP X pins σ Q) X.xe s
section
variable {X:Cx} {pos:Pos}
noncomputable def ZGV (i:Nat):TG:=λv σ H Q=>Q (σ.set i (some v)) H
theorem ZJ0 (hN:X.N.Nodup) (hi:X.N[i]? =some x) (hx:Loc X.env.scope x) (hf:X.fn x=true∨X.env.scope.names.lookup x=some .local:=by first | exact .inl rfl | exact .inr rfl | assumption):PG X (.Name x pos) (ZGV i):=by intro pins s σ H v u Q I r h;exact wpAny_assign_Name (ZAN I hN hi hx r (λs' I'=>⟨_,H,I',h⟩) hf)
noncomputable def gNil:TGs:=λvs σ H Q=>vs= []/\Q σ H
noncomputable def ZIF (t:TG) (u:TGs):TGs:=λvs σ H Q=>∃v r,vs=v::r/\t v σ H λσ' H'=>u r σ' H' Q
theorem ZKe:PGs X [] gNil:=by intro pins s σ H vs us Q I r h;obtain ⟨e,h⟩:=h;subst e;cases r;exact assignInOrder_nil ⟨σ,H,I,h⟩
theorem ZKz {es:List Expr} {t:TG} {u:TGs} (h1:PG X e t) (h2:PGs X es u)
  (hs:(assignEach (e::es) X.env).map (·.2)=assign e X.env::(assignEach es X.env).map (·.2):=by rfl):PGs X (e::es) (ZIF t u):=by
 intro pins s σ H vs us Q I r h;obtain ⟨v,vr,e1,h⟩:=h;subst e1;cases r with
 | cons r rr=>
  rw [hs];refine assignInOrder_cons (thn (h1 pins s σ H _ _ _ I r h) λ_ s1 ⟨σ1,H1,I1,q1⟩=> ?_);exact h2 pins s1 σ1 H1 _ _ Q I1 rr q1
noncomputable def gTup (K:PySem.W.Frag) (n:Nat) (t:TGs):TG:=λv σ H Q=>∃a xs,v=.ref a/\SqT K H a xs/\xs.length=n/\t xs σ H Q
theorem ZLw {es:List Expr} {k:Nat} {t:TGs} {n:Nat} (hc:X.calm=true) (h:PGs X es t)
  (hn:(assignEach es X.env).length=n:=by rfl) (hst:(assignEach es X.env).findIdx? (·.1)=none:=by rfl):PG X (.Tuple es k pos) (gTup X.K n t):=by
 intro pins s σ H v u Q I r hw;obtain ⟨a,xs,e1,hq,hl,hw⟩:=hw;subst e1;cases r;obtain ⟨its,rv,ht,hz⟩:=I.tuple hq;refine assign_Tuple_tuple (I.ok.hd hc) ht (by simp [hn,<-hl,rv.length]) hst λh' hx=> ?_
 have I1:Inv X pins σ H {s with heap:=h'}:=I.kept (t':=s.toks) λb o e=>hx b o (Nat.ne_of_lt (Heap.lt_size e)) e
 exact h pins _ σ H xs _ Q I1 (by simpa using rv) hw
noncomputable def gSub (to ti:TE) (t:TSet):TG:=λv σ H Q=>to σ H λo H1=>ti σ H1 λi H2=>t o i v H2 λH3=>Q σ H3
theorem ZN7 {o i:Expr} {to ti:TE} {t:TSet} (ho:PE X o to) (hi:PE X i ti) (hs:PSet X t)
  (ha:∀v,assign (.Subscript o i pos) X.env v=(do
   let ov<-holding [v] (eval o X.env);let iv<-holding [v,ov] (eval i X.env)
   standAt pos
   holding [v,ov,iv] (setItem ov iv v)
   release [v,ov,iv] []):=by intro _;rfl):PG X (.Subscript o i pos) (gSub to ti t):=by
 intro pins s σ H v u Q I r h;rw [ha];refine wpAny_bind (wpAny_holding (thn (ho pins s σ H _ I h) λov s1 ⟨x,H1,I1,r1,q1⟩=> ?_));refine wpAny_bind (wpAny_holding (thn (hi pins s1 σ H1 _ I1 q1) λiv s2 ⟨y,H2,I2,r2,q2⟩=> ?_));refine wpAny_bind (wpAny_standAt (wpAny_bind (wpAny_holding (thn (hs pins s2 σ H2 x y v ov iv u _ I2 r1 r2 r q2) λ_ s3 ⟨H3,I3,q3⟩=> ?_))));exact wpAny_release ⟨σ,H3,I3,q3⟩
noncomputable def Za (te:TE) (g:TG):TS:=λD σ H=>te σ H λx H1=>g x σ H1 D.nx
theorem ZPk {g:TG} (he:PE X e te) (hg:PG X tg g) (hs:swapsWithSole [tg] e pos.line X.env=pure false:=by rfl) (hw:swappedStores [tg] e X.env=pure none:=by rfl)
  (h1:(assignEach [tg] X.env).map (·.2)= [assign tg X.env]:=by rfl):PS X (.Assign [tg] e pos) (Za te g):=by
 intro pins s σ H D I h;refine wpAny_Assign_stores (thn (he pins s σ H _ I h) λv s1 ⟨x,H1,I1,r1,q1⟩=> ?_) hs hw;rw [h1];exact thn (hg pins s1 σ H1 x v _ I1 r1 q1) λ_ s2 q=>q
theorem ZMF {pos':Pos} (hN:X.N.Nodup) (hi:X.N[i]? =some x) (hx:Loc X.env.scope x) (he:PE X e te) (hs:swapsWith e (some (.Name x pos')) pos.line X.env=pure false:=by rfl) (hf:X.fn x=true∨X.env.scope.names.lookup x=some .local:=by first | exact .inl rfl | exact .inr rfl | assumption):
  PS X (.Assign [.Name x pos'] e pos) (Za te (ZGV i)):=by
 intro pins s σ H D I h;refine wpAny_Assign_Name (thn (he pins s σ H _ I h) λv s1 ⟨y,H1,I1,r1,q1⟩=> ?_) hs;exact ZAN I1 hN hi hx r1 (λs2 I2=>⟨_,H1,I2,q1⟩) hf
noncomputable def tAug (i:Nat) (te:TE) (ti:TIp):TS:=λD σ H=>∃x,σ[i]? =some (some x)/\te σ H λy H1=>ti x y H1 λz H2=>D.nx (σ.set i (some z)) H2
theorem ZLW {op:Operator} {ti:TIp} {pos':Pos} (hN:X.N.Nodup) (hi:X.N[i]? =some x) (hx:Loc X.env.scope x) (he:PE X e te) (ho:PIp X op ti) (hf:X.fn x=true∨X.env.scope.names.lookup x=some .local:=by first | exact .inl rfl | exact .inr rfl | assumption):
  PS X (.AugAssign (.Name x pos') op e pos) (tAug i te ti):=by
 intro pins s σ H D I h;obtain ⟨v,e1,h⟩:=h;obtain ⟨m,hn,hl⟩:=I.loc;have vis:Vis X.env.scope x:=by rcases hx with k | k;exact .inl k;exact .inr (.inl k)
 obtain ⟨u,r,l⟩:=hl i x v hi e1 vis;refine wpAny_AugAssign_Name ?_
 have go:wpAny (model X.prog X.w) X.A (eval e X.env) (λw s₂=>wpAny (model X.prog X.w) X.A (inplaceOp op u w) (λr s₃=>wpAny (model X.prog X.w) X.A (storeName X.env x r) (λ_=>SP X pins D .next) X.xe s₃) X.xe s₂) X.xe s:=by
  refine thn (he pins s σ H _ I h) λw s1 ⟨y,H1,I1,r1,q1⟩=> ?_
  refine thn (ho pins s1 σ H1 v y u w _ I1 r r1 q1) λz s2 ⟨zv,H2,I2,r2,q2⟩=> ?_
  exact ZAN I2 hN hi hx r2 (λs3 I3=>⟨_,H2,I3,q2⟩) hf
 rcases l with ⟨hk,hm⟩ | ⟨hk,c,hc,hcell⟩
 ·exact wpAny_loadName_local I.ok.kind hk hn hm go
 ·rcases hk with hk | hk
  ·exact wpAny_loadName_cell I.ok.kind hk hc hcell go
  ·rcases hx with k | k
   ·have:X.env.scope.names.lookup x=some .free:=hk;rw [k] at this;cases this
   ·have:X.env.scope.names.lookup x=some .free:=hk;rw [k] at this;cases this
noncomputable def ipI (f:Int->Int->Int):TIp:=λx y H Q=>∃i j,x=.int i/\y=.int j/\Q (.int (f i j)) H
theorem ZLS:PIp X .Add (ipI λi j=>i + j):=by intro pins s σ H x y v u Q I r1 r2 h;obtain ⟨i,j,e1,e2,q⟩:=h;subst e1;subst e2;obtain ⟨t,rfl⟩:=r1;obtain ⟨t',rfl⟩:=r2;exact iadd_int ⟨.int _,H,I.tok _,⟨_,rfl⟩,q⟩
theorem ZOY:PIp X .Sub (ipI λi j=>i - j):=by intro pins s σ H x y v u Q I r1 r2 h;obtain ⟨i,j,e1,e2,q⟩:=h;subst e1;subst e2;obtain ⟨t,rfl⟩:=r1;obtain ⟨t',rfl⟩:=r2;exact isub_int ⟨.int _,H,I.tok _,⟨_,rfl⟩,q⟩
end
section
variable {X:Cx} {pos:Pos}
noncomputable def ZOz (c:TT) (tb:TS):TS:=λD σ H=>∃W:Nat->St->Hp->Prop,(∃m,W m σ H)/\∀m σ H,W m σ H->
 c σ H λb H1=>if b=true then∃N:St->Hp->Prop,(∀σ' H',N σ' H'->∃m',m' < m/\W m' σ' H')/\tb {D with nx:=N,ct:=N,bk:=D.nx} σ H1 else D.nx σ H1
theorem ZIL {tc:TT} {tb:TS} (hp:PassesOwn (model X.prog X.w) X.A X.env X.xe) (hc:PT X c tc) (hb:PSs X body tb):PS X (.While c body [] pos) (ZOz tc tb):=by
 intro pins s σ H D I h;obtain ⟨W,⟨m0,w0⟩,turn⟩:=h;refine wpAny_While (codeAny_whileLoop (λn s'=>∃σ' H',Inv X pins σ' H' s'/\W n σ' H') ?_ m0 ⟨σ,H,I,w0⟩);rintro n s1 ⟨σ1,H1,I1,w1⟩;refine wpAny_passesOwn hp (thn (hc pins s1 σ1 H1 _ I1 (turn n σ1 H1 w1)) λb s2 ⟨H2,I2,q2⟩=> ?_);cases b with
 | true=>
  obtain ⟨N,hN,q2⟩:=q2;rw [if_pos rfl];refine wpAny_passesOwn hp (thn (hb pins s2 σ1 H2 _ I2 q2) λf s3 q3=> ?_);cases f with
  | next=>
   obtain ⟨σ3,H3,I3,n3⟩:=q3;obtain ⟨m',hm,w3⟩:=hN σ3 H3 n3;exact ⟨m',hm,σ3,H3,I3,w3⟩
  | cont=>
   obtain ⟨σ3,H3,I3,n3⟩:=q3;obtain ⟨m',hm,w3⟩:=hN σ3 H3 n3;exact ⟨m',hm,σ3,H3,I3,w3⟩
  | brk=>exact q3
  | ret v=>exact q3
 | false=>
  rw [if_neg Bool.false_ne_true];exact wpAny_execs_nil ⟨σ1,H2,I2,q2⟩
end
structure It where
 go:Nat->Hp->Prop
 yld:Nat->Hp->V->Hp->Prop
 stop:Nat->Hp->Prop
noncomputable def FpOk (X:Cx) (pins:List (Addr×Obj)) (H:Hp) (b:Addr):Prop:=
 H b=none/\b≠X.env.locals/\b ∉ X.fs/\(b∈X.ex∨X.s₀.heap.objs.size<=b)/\(∀x c,X.env.cells.lookup x=some c->c≠b)/\∀p∈X.pn++pins,p.1≠b
theorem Inv.K1 {H':Hp} (I:Inv X pins σ H s) (hb:s.heap.objs.size<=b) (hn:H' b=none):FpOk X pins H' b:=by
 refine ⟨hn,Nat.ne_of_gt (Nat.lt_of_lt_of_le I.lt hb),I.nofs hb,.inr (Nat.le_trans I.sz hb),λx c e z=> ?_,λp hp z=> ?_⟩
 ·obtain ⟨v,q⟩:=I.cell x c e;exact absurd (Nat.lt_of_lt_of_le q.lt (by rw [z];exact hb)) (Nat.lt_irrefl _)
 ·exact absurd (Nat.lt_of_lt_of_le (Heap.lt_size (I.pin p hp).1) (by rw [z];exact hb)) (Nat.lt_irrefl _)
structure Turn (P:Program) (w:World) (K:PySem.W.Frag) (tg:Expr) (J:It) (fp:List Addr) (it:Addr) (tn:Nat->Heap->Prop):Prop where
 mem:it∈fp
 obj:∀i h,tn i h->∀b∈fp,∃o,h.get? b=some o/\∀v,o.data≠ .cell v
 keep:∀i h h',tn i h->(∀b∈fp,∀o,h.get? b=some o->h'.get? b=some o)->tn i h'
 item:∀(X:Cx),X.prog=P->X.w=w->X.K=K->X.calm=true->∀(i:Nat) (pins:List (Addr×Obj)) (s:Shared) (σ:St) (H:Hp) (E:Value->Shared->Prop),Inv X pins σ H s->(∀b∈fp,FpOk X pins H b)->tn i s.heap->J.go i H->
  wpAny (model P w) X.A (pyNext (.ref it)) (λr s1=>∃u,r=some u/\
   wpAny (model P w) X.A (letOwnedTupleGo tg (.ref it) u) (λ_ s2=>∃x H',Inv X pins σ H' s2/\RelV x u/\J.yld i H x H'/\tn (i + 1) s2.heap/\∀b∈fp,H' b=none) E s1) E s
 done:∀(X:Cx),X.prog=P->X.w=w->X.K=K->X.calm=true->∀(i:Nat) (pins:List (Addr×Obj)) (s:Shared) (σ:St) (H:Hp) (E:Value->Shared->Prop),Inv X pins σ H s->(∀b∈fp,FpOk X pins H b)->tn i s.heap->J.stop i H->
  wpAny (model P w) X.A (pyNext (.ref it)) (λr s1=>r=none/\Inv X pins σ H s1) E s
 self:∀(A:Around) (i:Nat) (s:Shared) (Q:Value->Shared->Prop) (E:Value->Shared->Prop),tn i s.heap->Q (.ref it) s->wpAny (model P w) A (pyIter (.ref it)) Q E s
noncomputable abbrev TI:=St->Hp->(It->Hp->Prop)->Prop
noncomputable def PIE (X:Cx) (pins:List (Addr×Obj)) (σ:St) (tg:Expr) (R:It->Hp->Prop) (itv:Value) (s2:Shared):Prop:=
 ∃(it:Addr) (fp:List Addr) (tn:Nat->Heap->Prop) (J:It) (H':Hp),itv=.ref it/\Inv X pins σ H' s2/\Turn X.prog X.w X.K tg J fp it tn/\tn 0 s2.heap/\(∀b∈fp,FpOk X pins H' b)/\R J H'
noncomputable def PI (X:Cx) (tg iter:Expr) (wi:TI):Prop:=
 ∀(pins:List (Addr×Obj)) (s:Shared) (σ:St) (H:Hp) (R:It->Hp->Prop),Inv X pins σ H s->wi σ H R->
  wpAny (model X.prog X.w) X.A (eval iter X.env) (λv s1=>wpAny (model X.prog X.w) X.A (pyIter v) (PIE X pins σ tg R) X.xe s1) X.xe s
theorem Qk {M:Model} {it:Addr} {o:Obj} {n:String} {vs:Array Value} {Q:Unit->Shared->Prop} (ho:s.heap.get? it=some o) (hc:o.cls=.type n) (hd:o.data=.fields vs)
  (hn: ["enumerate","zip","dict_itemiterator","dict_reverseitemiterator","odict_iterator","itertools.zip_longest","itertools.pairwise"].contains n=false) (hQ:Q () s):wpAny M A (letOwnedTupleGo tg (.ref it) u) Q E s:=by
 unfold letOwnedTupleGo
 cases tg <;> first
  | exact wpAny_pure hQ
  | (cases u <;> first
    | exact wpAny_pure hQ
    | (
      refine wpAny_bind (wpAny_load ho ?_);rw [hc,hd];show wpAny M A (if (["enumerate","zip","dict_itemiterator","dict_reverseitemiterator","odict_iterator","itertools.zip_longest","itertools.pairwise"].contains n && vs[0]? == some (rawInt _))=true then _ else _) Q E s;rw [if_neg (by intro h;rw [hn,Bool.false_and] at h;cases h)];exact wpAny_pure hQ))
noncomputable def Itl (K:PySem.W.Frag) (a:Addr):It:=
 ⟨λi H=>∃xs x,SqL K H a xs/\xs[i]? =some x,λi H x H'=>H'=H/\∀xs,SqL K H a xs->xs[i]? =some x,λi H=>∃xs,SqL K H a xs/\xs.length<=i⟩
noncomputable def Itt (K:PySem.W.Frag) (a:Addr):It:=
 ⟨λi H=>∃xs x,SqT K H a xs/\xs[i]? =some x,λi H x H'=>H'=H/\∀xs,SqT K H a xs->xs[i]? =some x,λi H=>∃xs,SqT K H a xs/\xs.length<=i⟩
noncomputable def Itr (lo:Int) (n:Nat):It:=⟨λi _=>i < n,λi H x H'=>H'=H/\x=.int (lo + i),λi _=>n<=i⟩
theorem ZKS (a it:Addr):Turn P w K tg (Itl K a) [it] it (λi h=>h.IsListIter it a i) where
 mem:=by simp
 obj:=λi h st b hb=>by
  have e:b=it:=by simpa using hb
  subst e;obtain ⟨o,e,c,d⟩:=st;exact ⟨o,e,λv z=>by rw [d] at z;cases z⟩
 keep:=λi h h' st k=>st.at λo e=>k it (by simp) o e
 item:=by
  intro X hP hw hK hc i pins s σ H E I hf st hg;subst hP hw hK;obtain ⟨xs,x,hq,hx⟩:=hg;obtain ⟨its,rv,p,hz⟩:=I.list hq;obtain ⟨u,hu,ru⟩:=rv.get hx;obtain ⟨f0,f1,f2,f3,f4,f5⟩:=hf it (by simp);refine wpAny_pyNext_list_item st p.isList (x:=u) (by simpa using hu) λh' st' sb=> ?_
  have I1:Inv X pins σ H {s with heap:=h'}:=I.turned (t':=s.toks) (λb o hb e=>(sb.2 b hb).trans e) f0 f1 f3 f4 f5;obtain ⟨o,e,c,d⟩:=id st';exact ⟨u,rfl,Qk (s:={s with heap:=h'}) e c d (by decide) ⟨x,H,I1,ru,⟨rfl,λys hy=>by rw [I.ZCg hy hq];exact hx⟩,st',λb hb=>(hf b hb).1⟩⟩
 done:=by intro X hP hw hK hc i pins s σ H E I hf st hg;subst hP hw hK;obtain ⟨xs,hq,hx⟩:=hg;obtain ⟨its,rv,p,hz⟩:=I.list hq;obtain ⟨f0,f1,f2,f3,f4,f5⟩:=hf it (by simp);have hl:=rv.length;exact wpAny_pyNext_list_end (I.ok.hd hc) st p.isList (by simp;lia) λh' eb=>⟨rfl,I.turned (t':=s.toks) (λb o hb e=>eb b o hb e) f0 f1 f3 f4 f5⟩
 self:=λ_ _ _ _ _ st h=>wpAny_pyIter_listiter st h
theorem ZKj (a it:Addr):Turn P w K tg (Itt K a) [it] it (λi h=>h.IsTupleIter it a i) where
 mem:=by simp
 obj:=λi h st b hb=>by
  have e:b=it:=by simpa using hb
  subst e;obtain ⟨o,e,c,d⟩:=st;exact ⟨o,e,λv z=>by rw [d] at z;cases z⟩
 keep:=λi h h' st k=>st.at λo e=>k it (by simp) o e
 item:=by
  intro X hP hw hK hc i pins s σ H E I hf st hg;subst hP hw hK;obtain ⟨xs,x,hq,hx⟩:=hg;obtain ⟨its,rv,p,hz⟩:=I.tuple hq;obtain ⟨u,hu,ru⟩:=rv.get hx;obtain ⟨f0,f1,f2,f3,f4,f5⟩:=hf it (by simp)
  refine wpAny_pyNext_tuple_item st (show s.heap.IsTuple a its.toArray from p) (x:=u) (by simpa using hu) λh' st' sb=> ?_
  have I1:Inv X pins σ H {s with heap:=h'}:=I.turned (t':=s.toks) (λb o hb e=>(sb.2 b hb).trans e) f0 f1 f3 f4 f5;obtain ⟨o,e,c,d⟩:=id st';exact ⟨u,rfl,Qk (s:={s with heap:=h'}) e c d (by decide) ⟨x,H,I1,ru,⟨rfl,λys hy=>by rw [I.Yj hy hq];exact hx⟩,st',λb hb=>(hf b hb).1⟩⟩
 done:=by
  intro X hP hw hK hc i pins s σ H E I hf st hg;subst hP hw hK;obtain ⟨xs,hq,hx⟩:=hg;obtain ⟨its,rv,p,hz⟩:=I.tuple hq;obtain ⟨f0,f1,f2,f3,f4,f5⟩:=hf it (by simp);have hl:=rv.length
  exact wpAny_pyNext_tuple_end (I.ok.hd hc) st (show s.heap.IsTuple a its.toArray from p) (by simp;lia) λh' eb=>⟨rfl,I.turned (t':=s.toks) (λb o hb e=>eb b o hb e) f0 f1 f3 f4 f5⟩
 self:=λ_ _ _ _ _ st h=>wpAny_pyIter_tupleiter st h
theorem ZMa (it:Addr) (lo:Int) (n:Nat):Turn P w K tg (Itr lo n) [it] it (λi h=>IsRangeIter h it (lo + (i:Nat) * 1) ((n:Int) - (i:Nat)) 1) where
 mem:=by simp
 obj:=λi h st b hb=>by
  have e:b=it:=by simpa using hb
  subst e;exact ⟨_,st,λv z=>by have z':Data.fields _=Data.cell v:=z;cases z'⟩
 keep:=λi h h' st k=>k it (by simp) _ st
 item:=by
  intro X hP hw hK hc i pins s σ H E I hf st hg;subst hP hw hK;obtain ⟨f0,f1,f2,f3,f4,f5⟩:=hf it (by simp);have W:=Walks.range (prog:=X.prog) (w:=X.w) (I.ok.hd hc) it lo 1 n;refine W.item i s _ _ hg st λv h' tk hv st' kk=> ?_
  obtain ⟨t,rfl⟩:=hv;have I1:Inv X pins σ H {s with heap:=h',toks:=tk}:=I.turned (λb o hb e=>kk b o (by simpa using hb) e) f0 f1 f3 f4 f5;refine ⟨_,rfl,Qk (s:={s with heap:=h',toks:=tk}) (n:="range_iterator") st' rfl rfl (by decide) ⟨.int (lo + i),H,I1,⟨t,?_⟩,⟨rfl,rfl⟩,st',λb hb=>(hf b hb).1⟩⟩;rw [Int.mul_one]
 done:=by intro X hP hw hK hc i pins s σ H E I hf st hg;subst hP hw hK;obtain ⟨f0,f1,f2,f3,f4,f5⟩:=hf it (by simp);exact wpAny_pyNext_range_end (I.ok.hd hc) st (by have:n<=i:=hg;lia) λh' eb=>⟨rfl,I.turned (t':=s.toks) (λb o hb e=>eb b o hb e) f0 f1 f3 f4 f5⟩
 self:=λ_ _ _ _ _ st h=>wpAny_pyIter_rangeiter st h
section
variable {X:Cx} {tg:Expr}
noncomputable def ZOC (K:PySem.W.Frag) (tl:TE):TI:=λσ H R=>tl σ H λx H1=>∃a,x=.ref a/\(∃xs,SqL K H1 a xs)/\R (Itl K a) H1
noncomputable def iTup (K:PySem.W.Frag) (tl:TE):TI:=λσ H R=>tl σ H λx H1=>∃a,x=.ref a/\(∃xs,SqT K H1 a xs)/\R (Itt K a) H1
theorem Zo {l:Expr} {tl:TE} (hl:PE X l tl):PI X tg l (ZOC X.K tl):=by
 intro pins s σ H R I h;refine thn (hl pins s σ H _ I h) λv s1 ⟨x,H1,I1,r1,q1⟩=> ?_
 obtain ⟨a,e,⟨xs,hq⟩,q⟩:=q1;subst e;cases r1;obtain ⟨its,rv,p,hz⟩:=I1.list hq;refine wpAny_pyIter_list p.isList ?_;refine ⟨s1.heap.objs.size,[s1.heap.objs.size],_,_,H1,rfl,I1.kept (t':=s1.toks) λb o e=>Heap.get?_push_of_some _ e,ZKS a _,⟨_,Heap.get?_push_size _ rfl,rfl,rfl⟩,λb hb=> ?_,q⟩;have e:b=s1.heap.objs.size:=by simpa using hb
 subst e;exact I1.K1 (Nat.le_refl _) (I1.hok.fresh (Nat.le_refl _))
theorem ZOn {l:Expr} {tl:TE} (hl:PE X l tl):PI X tg l (iTup X.K tl):=by
 intro pins s σ H R I h;refine thn (hl pins s σ H _ I h) λv s1 ⟨x,H1,I1,r1,q1⟩=> ?_
 obtain ⟨a,e,⟨xs,hq⟩,q⟩:=q1;subst e;cases r1;obtain ⟨its,rv,p,hz⟩:=I1.tuple hq
 refine wpAny_pyIter_tuple (show s1.heap.IsTuple a its.toArray from p) ?_
 refine ⟨s1.heap.objs.size,[s1.heap.objs.size],_,_,H1,rfl,I1.kept (t':=s1.toks) λb o e=>Heap.get?_push_of_some _ e,ZKj a _,⟨_,Heap.get?_push_size _ rfl,rfl,rfl⟩,λb hb=> ?_,q⟩;have e:b=s1.heap.objs.size:=by simpa using hb
 subst e;exact I1.K1 (Nat.le_refl _) (I1.hok.fresh (Nat.le_refl _))
theorem ZMc {R:It->Hp->Prop} {lo hi:Int} {t u v:Tok} {tk:Nat} (I:Inv X pins σ H s) (h1: -(2 ^ 62)<=lo) (h2:lo < 2 ^ 62) (h3: -(2 ^ 62)<=hi) (h4:hi < 2 ^ 62)
  (q:R (Itr lo (hi - lo).toNat) H):wpAny (model X.prog X.w) X.A (pyIter (.ref s.heap.objs.size)) (PIE X pins σ tg R) E {s with heap:=s.heap.push {cls:=.type "range",data:=.fields #[.int lo t,.int hi u,.int 1 v]},toks:=tk}:=by
 refine wpAny_pyIter_range (IsRange.new ..) (small_one h1 h2 h3 h4) ?_;have I1:Inv X pins σ H {s with heap:=s.heap.push {cls:=.type "range",data:=.fields #[.int lo t,.int hi u,.int 1 v]},toks:=tk}:=I.kept λb o e=>Heap.get?_push_of_some _ e
 refine ⟨(s.heap.push {cls:=.type "range",data:=.fields #[.int lo t,.int hi u,.int 1 v]}).objs.size,[(s.heap.push {cls:=.type "range",data:=.fields #[.int lo t,.int hi u,.int 1 v]}).objs.size],_,_,H,rfl,
  I1.kept (t':=tk) λb o e=>Heap.get?_push_of_some _ e,ZMa _ lo (hi - lo).toNat,?_,λb hb=> ?_,q⟩
 ·have e1:lo + ((0:Nat):Int) * 1=lo:=by simp
  have e2:(((hi - lo).toNat:Nat):Int) - ((0:Nat):Int)=Builtin.Range.rangeSize lo hi 1:=by rw [rangeSize_one];split <;> lia
  show IsRangeIter _ _ (lo + ((0:Nat):Int) * 1) ((((hi - lo).toNat:Nat):Int) - ((0:Nat):Int)) 1;rw [e1,e2];exact Heap.get?_push_size _ rfl
 ·have e:b=(s.heap.push {cls:=.type "range",data:=.fields #[.int lo t,.int hi u,.int 1 v]}).objs.size:=by simpa using hb
  subst e;exact I1.K1 (Nat.le_refl _) (I1.hok.fresh (Nat.le_refl _))
noncomputable def ZKU (ta:TA):TI:=λσ H R=>ta σ H λvs H1=>∃j:Int,vs= [.int j]/\ -(2 ^ 62)<=j/\j < 2 ^ 62/\R (Itr 0 j.toNat) H1
theorem ZIK {a:Expr} {ta:TA} {p pos:Pos} (hg:Gl X "range") (hm:X.mg "range"=none) (ha:PA X [a] ta) (hs:starEach [a] X.env= [(false,eval a X.env)]:=by rfl):PI X tg (.Call (.Name "range" p) [a] [] pos) (ZKU ta):=by
 intro pins s σ H R I h;refine Call_ (Jk I hg hm boot_range (PyProof.Rows.callWith_type1 (thn (ha pos pins s σ H _ I h) λus s1 ⟨vs,H1,I1,r1,q1⟩=> ?_) hs rfl));obtain ⟨j,e,q1,q2,q⟩:=q1;subst e;cases r1 with
 | cons r rr=>
  cases rr;obtain ⟨t,rfl⟩:=r;exact call_range_1 (ZMc I1 (by lia) (by lia) q1 q2 (by simpa using q))
noncomputable def tFor (wi:TI) (g:TG) (tb:TS):TS:=λD σ H=>wi σ H λJ H1=>∃W:Nat->Nat->St->Hp->Prop,(∃m,W 0 m σ H1)/\∀i m σ H,W i m σ H->
 (J.stop i H/\D.nx σ H)∨(J.go i H/\∃N:St->Hp->Prop,(∀σ' H',N σ' H'->∃m',m' < m/\W (i + 1) m' σ' H')/\∀x H',J.yld i H x H'->g x σ H' λσ2 H2=>tb {D with nx:=N,ct:=N,bk:=D.nx} σ2 H2)
noncomputable def Pb (fp:List Addr) (h:Heap):List (Addr×Obj):=fp.filterMap λb=>(h.get? b).map λo=>(b,o)
theorem W8 {o:Obj} (hb:b∈fp) (e:h.get? b=some o):(b,o)∈Pb fp h:=List.mem_filterMap.mpr ⟨b,hb,by rw [e];rfl⟩
theorem ZHo {p:Addr×Obj} (hp:p∈Pb fp h):p.1∈fp/\h.get? p.1=some p.2:=by
 obtain ⟨b,hb,e⟩:=List.mem_filterMap.mp hp;cases q:h.get? b with
 | none=>rw [q] at e;cases e
 | some o=>
  rw [q] at e;have e':(b,o)=p:=Option.some.inj e;subst e';exact ⟨hb,q⟩
theorem Inv.pinned (I:Inv X pins σ H s) (hf:∀b∈fp,FpOk X pins H b) (ho:∀b∈fp,∃o,s.heap.get? b=some o/\∀v,o.data≠ .cell v):Inv X (pins++Pb fp s.heap) σ H s:=
 I.M4 λp hp=>(List.mem_append.mp hp).elim (λz=>I.pin p (List.mem_append_right _ z)) λz=>by obtain ⟨hb,e⟩:=ZHo z;obtain ⟨f0,f1,f2,_⟩:=hf p.1 hb;obtain ⟨o,e',d⟩:=ho p.1 hb;rw [e] at e';cases e';exact ⟨e,f0,f1,f2,d⟩
theorem Inv.unpinned {pl:List (Addr×Obj)} (I:Inv X (pins++pl) σ H s):Inv X pins σ H s:=I.M4 λp hp=>I.pin p (List.mem_append_right _ (List.mem_append_left _ hp))
theorem ZJt {iter:Expr} {wi:TI} {g:TG} {tb:TS} {pos:Pos} (hp:PassesOwn (model X.prog X.w) X.A X.env X.xe) (hc:X.calm=true) (hi:PI X tg iter wi) (hg:PG X tg g) (hb:PSs X body tb)
  (hs:∀x,foldedSetIterable iter X.env x=pure x:=by intro _;rfl):PS X (.For tg iter body [] pos) (tFor wi g tb):=by
 intro pins s σ H D I h;refine wpAny_For (thn (hi pins s σ H _ I h) λv s1 h1=>thn h1 λitv s2 h2=> ?_) hs;obtain ⟨it,fp,tn,J,H2,e,I2,T,st2,f2,W,⟨m0,w0⟩,turn⟩:=h2;subst e;have stat:∀{H':Hp},(∀b∈fp,H' b=none)->∀b∈fp,FpOk X pins H' b:=λhn b hb=>⟨hn b hb,(f2 b hb).2⟩
 refine codeAny_forLoop_any (λn s'=>∃i σ' H',Inv X pins σ' H' s'/\tn i s'.heap/\(∀b∈fp,H' b=none)/\W i n σ' H') ?_ m0 ⟨0,σ,H2,I2,st2,λb hb=>(f2 b hb).1,w0⟩;rintro n s3 ⟨i,σ3,H3,I3,st3,fr3,w3⟩;rcases turn i n σ3 H3 w3 with ⟨stop,qn⟩ | ⟨go,N,hN,step⟩
 ·refine wpAny_passesOwn hp (thn (T.done X rfl rfl rfl hc i pins s3 σ3 H3 X.xe I3 (stat fr3) st3 stop) λr s4 ⟨hr,I4⟩=> ?_);subst hr;exact wpAny_execs_nil ⟨σ3,H3,I4,qn⟩
 ·refine wpAny_passesOwn hp (thn (T.item X rfl rfl rfl hc i pins s3 σ3 H3 X.xe I3 (stat fr3) st3 go) λr s4 ⟨u,hr,h4⟩=> ?_);subst hr;refine wpAny_passesOwn hp (thn h4 λ_ s5 ⟨x,H5,I5,r5,y5,st5,fr5⟩=> ?_);have I5':=I5.pinned (stat fr5) (T.obj _ _ st5);refine wpAny_passesOwn hp (thn (hg _ s5 σ3 H5 x u _ I5' r5 (step x H5 y5)) λ_ s6 ⟨σ6,H6,I6,q6⟩=> ?_);refine wpAny_passesOwn hp (thn (hb _ s6 σ6 H6 _ I6 q6) λf s7 q7=> ?_)
  have again:∀{σ7:St} {H7:Hp},Inv X (pins++Pb fp s5.heap) σ7 H7 s7->N σ7 H7->∃m,m < n/\∃i σ' H',Inv X pins σ' H' s7/\tn i s7.heap/\(∀b∈fp,H' b=none)/\W i m σ' H':=λ{σ7 H7} I7 n7=>by obtain ⟨m',hm,w7⟩:=hN σ7 H7 n7;refine ⟨m',hm,i + 1,σ7,H7,I7.unpinned,T.keep _ _ _ st5 λb hb o e=>(I7.pin (b,o) (List.mem_append_right _ (List.mem_append_right _ (W8 hb e)))).1,λb hb=> ?_,w7⟩;obtain ⟨o,e,d⟩:=T.obj _ _ st5 b hb;exact (I7.pin (b,o) (List.mem_append_right _ (List.mem_append_right _ (W8 hb e)))).2.1
  cases f with
  | next=>obtain ⟨σ7,H7,I7,n7⟩:=q7;exact again I7 n7
  | cont=>obtain ⟨σ7,H7,I7,n7⟩:=q7;exact again I7 n7
  | brk=>obtain ⟨σ7,H7,I7,q7⟩:=q7;exact ⟨σ7,H7,I7.unpinned,q7⟩
  | ret v=>obtain ⟨x7,σ7,H7,I7,r7,q7⟩:=q7;exact ⟨x7,σ7,H7,I7.unpinned,r7,q7⟩
end
noncomputable abbrev R2:=V->V->Hp->VK->Prop
variable {r:R2}
noncomputable def OpR (X:Cx) (f:Value->Value->Sem Value) (r:R2):Prop:=
 ∀(pins:List (Addr×Obj)) (s:Shared) (σ:St) (H:Hp) (x y:V) (v u:Value) (Q:VK),Inv X pins σ H s->RelV x v->RelV y u->r x y H Q->
  wpAny (model X.prog X.w) X.A (f v u) (EP X pins σ Q) X.xe s
noncomputable def UnR (X:Cx) (f:Value->Sem Value) (r:V->Hp->VK->Prop):Prop:=
 ∀(pins:List (Addr×Obj)) (s:Shared) (σ:St) (H:Hp) (x:V) (v:Value) (Q:VK),Inv X pins σ H s->RelV x v->r x H Q->
  wpAny (model X.prog X.w) X.A (f v) (EP X pins σ Q) X.xe s
noncomputable def CallR (X:Cx) (f:Value) (r:List V->Hp->VK->Prop):Prop:=
 ∀(pins:List (Addr×Obj)) (s:Shared) (σ:St) (H:Hp) (xs:List V) (us:List Value) (Q:VK),Inv X pins σ H s->Vals xs us->r xs H Q->
  wpAny (model X.prog X.w) X.A (call f us) (EP X pins σ Q) X.xe s
noncomputable def tOp (r:R2) (ta tb:TE):TE:=λσ H Q=>ta σ H λx H1=>tb σ H1 λy H2=>r x y H2 Q
noncomputable def tUn (r:V->Hp->VK->Prop) (ta:TE):TE:=λσ H Q=>ta σ H λx H1=>r x H1 Q
noncomputable def rI (C:Int->Int->Prop) (g:Int->Int->V):R2:=λx y H Q=>∃i j,x=.int i/\y=.int j/\C i j/\Q (g i j) H
noncomputable def rI0 (g:Int->Int->V):R2:=λx y H Q=>∃i j,x=.int i/\y=.int j/\Q (g i j) H
noncomputable def rU (g:Int->V):V->Hp->VK->Prop:=λx H Q=>∃i,x=.int i/\Q (g i) H
section
variable {X:Cx} {a b c:Expr} {ta tb tc:TE} {pos:Pos}
theorem Yp (ha:PE X a ta) (hb:PE X b tb) {R:V->V->Hp->Prop} (I:Inv X pins σ H s)
  (h:ta σ H λx H1=>tb σ H1 λy H2=>R x y H2) {Q:Value->Shared->Prop} {f:Value->Value->Sem Value}
  (hf:∀v u s2 x y H2,Inv X pins σ H2 s2->RelV x v->RelV y u->R x y H2->wpAny (model X.prog X.w) X.A (f v u) Q X.xe s2):
  wpAny (model X.prog X.w) X.A (eval a X.env) (λv s₁=>wpAny (model X.prog X.w) X.A (eval b X.env) (λu s₂=>wpAny (model X.prog X.w) X.A (f v u) Q X.xe s₂) X.xe s₁) X.xe s:=by
 refine thn (ha pins s σ H _ I h) λv s1 ⟨x,H1,I1,r1,q1⟩=> ?_
 refine thn (hb pins s1 σ H1 _ I1 q1) λu s2 ⟨y,H2,I2,r2,q2⟩=> ?_
 exact hf v u s2 x y H2 I2 r1 r2 q2
theorem ZIs {op:Operator} (ho:OpR X (binaryOp op) r) (ha:PE X a ta) (hb:PE X b tb):PE X (.BinOp a op b pos) (tOp r ta tb):=by intro pins s σ H Q I h;exact wpAny_BinOp (Yp ha hb I h λv u s2 x y H2 I2 rx ry q=>ho pins s2 σ H2 x y v u Q I2 rx ry q)
theorem ZNe {op:UnaryOp} {r:V->Hp->VK->Prop} (ho:UnR X (unaryOp op) r) (ha:PE X a ta):PE X (.UnaryOp op a pos) (tUn r ta):=by intro pins s σ H Q I h;exact UnaryOp_ (thn (ha pins s σ H _ I h) λv s1 ⟨x,H1,I1,r1,q1⟩=>ho pins s1 σ H1 x v Q I1 r1 q1)
theorem opI {C:Int->Int->Prop} {g:Int->Int->Int}
  (rule:∀(i j:Int) (t u:Tok) (s:Shared) (Q:Value->Shared->Prop) (E:Value->Shared->Prop),C i j->Q (.int (g i j) s.toks) {s with toks:=s.toks + 1}->wpAny (model X.prog X.w) X.A (f (.int i t) (.int j u)) Q E s):
  OpR X f (rI C λi j=>.int (g i j)):=by
 intro pins s σ H x y v u Q I rx ry h;obtain ⟨i,j,rfl,rfl,hc,q⟩:=h;obtain ⟨t,rfl⟩:=rx;obtain ⟨t',rfl⟩:=ry;exact rule i j t t' s _ _ hc ⟨.int (g i j),H,I.tok _,⟨_,rfl⟩,q⟩
theorem opI0 {g:Int->Int->Int}
  (rule:∀(i j:Int) (t u:Tok) (s:Shared) (Q:Value->Shared->Prop) (E:Value->Shared->Prop),Q (.int (g i j) s.toks) {s with toks:=s.toks + 1}->wpAny (model X.prog X.w) X.A (f (.int i t) (.int j u)) Q E s):
  OpR X f (rI0 λi j=>.int (g i j)):=by
 intro pins s σ H x y v u Q I rx ry h;obtain ⟨i,j,rfl,rfl,q⟩:=h;obtain ⟨t,rfl⟩:=rx;obtain ⟨t',rfl⟩:=ry;exact rule i j t t' s _ _ ⟨.int (g i j),H,I.tok _,⟨_,rfl⟩,q⟩
theorem X5 {g:Int->Int->Bool}
  (rule:∀(i j:Int) (t u:Tok) (s:Shared) (Q:Value->Shared->Prop) (E:Value->Shared->Prop),Q (.bool (g i j)) s->wpAny (model X.prog X.w) X.A (f (.int i t) (.int j u)) Q E s):
  OpR X f (rI0 λi j=>.bl (g i j)):=by
 intro pins s σ H x y v u Q I rx ry h;obtain ⟨i,j,rfl,rfl,q⟩:=h;obtain ⟨t,rfl⟩:=rx;obtain ⟨t',rfl⟩:=ry;exact rule i j t t' s _ _ ⟨.bl (g i j),H,I,rfl,q⟩
noncomputable def CPow (i j:Int):Prop:=0<=j/\j<=1000000/\i.natAbs < 2 ^ 64
noncomputable def CMul (i j:Int):Prop:=(-(2 ^ 64) < i/\i < 2 ^ 64)∨(-(2 ^ 64) < j/\j < 2 ^ 64)
theorem CMul.ok {i j:Int} (h:CMul i j):IntMulOk i j:=by
 rcases h with ⟨h1,h2⟩ | ⟨h1,h2⟩
 ·exact .of_left (intBits_le_64 h1 h2)
 ·exact .of_right (intBits_le_64 h1 h2)
theorem ZLv:OpR X (binaryOp .Add) (rI0 λi j=>.int (i + j)):=opI0 λ_ _ _ _ _ _ _ q=>add_int q
theorem ZI5:OpR X (binaryOp .Sub) (rI0 λi j=>.int (i - j)):=opI0 λ_ _ _ _ _ _ _ q=>sub_int q
theorem ZIi:OpR X (binaryOp .Mod) (rI (λ_ j=>0 < j) λi j=>.int (i % j)):=opI λi j _ _ _ _ _ hc q=>by have h1:(0:Int) < j:=hc;exact mod_int' (by lia) (by rw [Int.fmod_eq_emod_of_nonneg i (by lia)];exact q)
theorem ZOu:OpR X (binaryOp .Pow) (rI CPow λi j=>.int (i ^ j.toNat)):=opI λ_ _ _ _ _ _ _ hc q=>pow_int_small hc.1 hc.2.1 hc.2.2 q
theorem unI {f:Value->Sem Value} {g:Int->Int}
  (rule:∀(i:Int) (t:Tok) (s:Shared) (Q:Value->Shared->Prop) (E:Value->Shared->Prop),Q (.int (g i) s.toks) {s with toks:=s.toks + 1}->wpAny (model X.prog X.w) X.A (f (.int i t)) Q E s):
  UnR X f (rU λi=>.int (g i)):=by
 intro pins s σ H x v Q I rx h;obtain ⟨i,rfl,q⟩:=h;obtain ⟨t,rfl⟩:=rx;exact rule i t s _ _ ⟨.int (g i),H,I.tok _,⟨_,rfl⟩,q⟩
theorem ZK9:UnR X (unaryOp .USub) (rU λi=>.int (-i)):=unI λ_ _ _ _ _ q=>neg_int q
end
section
variable {X:Cx} {a b c:Expr} {ta tb tc:TE} {pos:Pos}
theorem ZBV {Q:VK} {k k':Bool} (I:Inv X pins σ H s) (q:Q (.bl k) H) (e:k=k'):EP X pins σ Q (.bool k') s:=by subst e;exact ⟨.bl k,H,I,rfl,q⟩
theorem ZJL:OpR X (compareOp .Lt) (rI0 λi j=>.bl (decide (i < j))):=X5 λ_ _ _ _ _ _ _ q=>lt_int q
theorem ZNt:OpR X (compareOp .LtE) (rI0 λi j=>.bl (decide (i<=j))):=X5 λ_ _ _ _ _ _ _ q=>le_int q
theorem ZK3:OpR X (compareOp .Gt) (rI0 λi j=>.bl (decide (j < i))):=X5 λ_ _ _ _ _ _ _ q=>gt_int q
theorem ZKm:OpR X (compareOp .GtE) (rI0 λi j=>.bl (decide (j<=i))):=X5 λ_ _ _ _ _ _ _ q=>ge_int q
theorem ZPS:OpR X (compareOp .Lt) (λx y H Q=>∃i j,x=.str i/\y=.str j/\Q (.bl (decide (i.cps.toList < j.cps.toList))) H):=by intro pins s σ H x y v u Q I rx ry h;obtain ⟨i,j,rfl,rfl,q⟩:=h;obtain ⟨t,rfl⟩:=rx;obtain ⟨t',rfl⟩:=ry;exact lt_str (ZBV I q rfl)
theorem ZNs:OpR X (compareOp .Is) (λx y H Q=>y=.non/\Q (.bl (decide (x=.non))) H):=by
 intro pins s σ H x y v u Q I rx ry h;obtain ⟨rfl,q⟩:=h;cases ry;refine is_none_gen (ZBV I q ?_)
 cases x <;> first
  | (cases rx;rfl)
  | (obtain ⟨t,rfl⟩:=rx;rfl)
theorem ZPi:OpR X (compareOp .IsNot) (λx y H Q=>y=.non/\Q (.bl (!decide (x=.non))) H):=by
 intro pins s σ H x y v u Q I rx ry h;obtain ⟨rfl,q⟩:=h;cases ry;refine isnot_none_gen (ZBV I q ?_)
 cases x <;> first
  | (cases rx;rfl)
  | (obtain ⟨t,rfl⟩:=rx;rfl)
theorem OpR.or {r':R2} (h:OpR X f r) (h':OpR X f r'):OpR X f (λx y H Q=>r x y H Q∨r' x y H Q):=by
 intro pins s σ H x y v u Q I rx ry q;rcases q with q | q
 ·exact h pins s σ H x y v u Q I rx ry q
 ·exact h' pins s σ H x y v u Q I rx ry q
theorem nomark (b:Expr) (h:op≠ .In:=by decide) (h2:op≠ .NotIn:=by decide):behindInMarks op b=false:=by
 have e1:(op == CmpOp.In)=false:=by cases op <;> first | rfl | exact absurd rfl h
 have e2:(op == CmpOp.NotIn)=false:=by cases op <;> first | rfl | exact absurd rfl h2
 cases b <;> simp [behindInMarks,e1,e2]
theorem ZJ1 (ho:OpR X (compareOp op) r) (ha:PE X a ta) (hb:PE X b tb) (hm:behindInMarks op b=false):PE X (.Compare a [op] [b] pos) (tOp r ta tb):=by intro pins s σ H Q I h;exact wpAny_Compare1 (Yp ha hb I h λv u s2 x y H2 I2 rx ry q=>ho pins s2 σ H2 x y v u Q I2 rx ry q) hm
noncomputable def Te (t:TE):TT:=λσ H Q=>t σ H λx H'=>∃k,x=.bl k/\Q k H'
theorem ZMh (ho:OpR X (compareOp op) r) (ha:PE X a ta) (hb:PE X b tb) (hm:behindInMarks op b=false):PT X (.Compare a [op] [b] pos) (Te (tOp r ta tb)):=by
 intro pins s σ H Q I h;refine wpAny_isTrue_Compare1 (thn (ha pins s σ H _ I h) λv s1 ⟨x,H1,I1,r1,q1⟩=>thn (hb pins s1 σ H1 _ I1 q1) λu s2 ⟨y,H2,I2,r2,q2⟩=>
  thn (ho pins s2 σ H2 x y v u _ I2 r1 r2 q2) λc s3 ⟨z,H3,I3,r3,k,e,q3⟩=> ?_) hm
 subst e;cases r3;exact wpAny_truthy_bool ⟨H3,I3,q3⟩
noncomputable def ZHV (r r':R2) (ta tb tc:TE):TE:=λσ H Q=>ta σ H λx H1=>tb σ H1 λy H2=>r x y H2 λz H3=>∃k,z=.bl k/\
 (if k=true then tc σ H3 λw' H4=>r' y w' H4 Q else Q (.bl false) H3)
theorem ZIt {op':CmpOp} {r':R2} (ho:OpR X (compareOp op) r) (ho':OpR X (compareOp op') r') (ha:PE X a ta) (hb:PE X b tb) (hc:PE X c tc)
  (hm:lastMarks [op,op'] [b,c]=false:=by with_unfolding_all rfl):PT X (.Compare a [op,op'] [b,c] pos) (Te (ZHV r r' ta tb tc)):=by
 intro pins s σ H Q I h;refine isTrue_chain (thn (ha pins s σ H _ I h) λv s1 ⟨x,H1,I1,r1,q1⟩=>test_link (thn (hb pins s1 σ H1 _ I1 q1) λu s2 ⟨y,H2,I2,r2,q2⟩=>
  thn (ho pins s2 σ H2 x y v u _ I2 r1 r2 q2) λd s3 ⟨z,H3,I3,r3,k,e,q3⟩=> ?_)) hm
 subst e;cases r3;refine wpAny_truthy_bool ?_;cases k with
 | false=>
  obtain ⟨k',e',q'⟩:=q3;cases e';exact ite_ff ⟨H3,I3,q'⟩
 | true=>
  refine ite_tt (test_last (thn (hc pins s3 σ H3 _ I3 q3) λw' s4 ⟨z',H4,I4,r4,q4⟩=>thn (ho' pins s4 σ H4 y z' u w' _ I4 r2 r4 q4) λd' s5 ⟨z2,H5,I5,r5,k2,e2,q5⟩=> ?_));subst e2;cases r5;exact wpAny_truthy_bool ⟨H5,I5,q5⟩
theorem line63:(sizeLine:Nat) < 2 ^ 63:=by rw [sizeLine_eq];decide
theorem ZO1:OpR X (binaryOp .Add) (λx y H Q=>∃i j,x=.str i/\y=.str j/\i.length + j.length<=sizeLine/\Q (.str (i++j)) H):=by intro pins s σ H x y v u Q I rx ry h;obtain ⟨i,j,rfl,rfl,hz,q⟩:=h;obtain ⟨t,rfl⟩:=rx;obtain ⟨t',rfl⟩:=ry;exact add_str (λt' tk=>⟨.str (i++j),H,I.tok _,⟨_,rfl⟩,q⟩) hz
theorem ZPV:OpR X (inplaceOp .Add) (λx y H Q=>∃i j,x=.str i/\y=.str j/\i.length + j.length<=sizeLine/\Q (.str (i++j)) H):=by intro pins s σ H x y v u Q I rx ry h;obtain ⟨i,j,rfl,rfl,hz,q⟩:=h;obtain ⟨t,rfl⟩:=rx;obtain ⟨t',rfl⟩:=ry;exact iadd_str (λt' tk=>⟨.str (i++j),H,I.tok _,⟨_,rfl⟩,q⟩) hz
theorem vals1 {x:V} (r:Vals [x] us):∃u,us= [u]/\RelV x u:=by
 cases r with
 | cons r1 r2=>cases r2;exact ⟨_,rfl,r1⟩
theorem vals2 {x:V} (r:Vals [x,y] us):∃u w',us= [u,w']/\RelV x u/\RelV y w':=by
 cases r with
 | cons r1 r2=>
  cases r2 with
  | cons r3 r4=>cases r4;exact ⟨_,_,rfl,r1,r3⟩
theorem ZLB (hc:X.calm=true):CallR X (.builtin "max") (λxs H Q=>∃i j,xs= [.int i,.int j]/\Q (.int (if j > i then j else i)) H):=by
 intro pins s σ H xs us Q I r h;obtain ⟨i,j,rfl,q⟩:=h;obtain ⟨u,w',rfl,⟨t,rfl⟩,⟨t',rfl⟩⟩:=vals2 r;refine max_two_ints (I.ok.hd hc) λh' tk k=>⟨_,H,I.kept k,?_,q⟩
 by_cases hj:j > i
 ·rw [if_pos hj,if_pos hj];exact ⟨_,rfl⟩
 ·rw [if_neg hj,if_neg hj];exact ⟨_,rfl⟩
theorem ZPb (hc:X.calm=true):CallR X (.builtin "min") (λxs H Q=>∃i j,xs= [.int i,.int j]/\Q (.int (if j < i then j else i)) H):=by
 intro pins s σ H xs us Q I r h;obtain ⟨i,j,rfl,q⟩:=h;obtain ⟨u,w',rfl,⟨t,rfl⟩,⟨t',rfl⟩⟩:=vals2 r;refine min_two_ints (I.ok.hd hc) λh' tk k=>⟨_,H,I.kept k,?_,q⟩
 by_cases hj:j < i
 ·rw [if_pos hj,if_pos hj];exact ⟨_,rfl⟩
 ·rw [if_neg hj,if_neg hj];exact ⟨_,rfl⟩
end
structure ObjM (h:Heap) (x dx C:Addr) (mA:Str->Option Value):Prop where
 obj:h.get? x=some (PySem.W.instObj C dx)
 ns:h.Ns1 dx mA
 ne:dx≠x
theorem ZJI {dx:Addr} {mA:Str->Option Value} (n:h.Ns1 dx mA):∃od,h.get? dx=some od/\∀name,PySem.W.lookIn name od=some (mA name):=by
 obtain ⟨o,es,ep,ho,hd,hk,_,hm⟩:=n;refine ⟨o,ho,λname=> ?_⟩;have e:=hm name;unfold nsFind findBy at e;rw [<-Array.find?_toList] at e;unfold PySem.W.lookIn;rw [hd];dsimp only;split
 ·rename_i y q;rw [q] at e;exact congrArg some e
 ·rename_i q;rw [q] at e
  have a:es.toList.any (·.refKey)=false:=by rw [List.any_eq_false];intro y hy;obtain ⟨z,t,hkey⟩:=hk y (Array.mem_toList_iff.mp hy);simp [DictEntry.refKey,hkey]
  have a':¬es.toList.any (·.refKey)=true:=by rw [a];exact Bool.false_ne_true
  rw [if_neg a'];exact congrArg some e
theorem ObjM.look {x dx:Addr} {mA:Str->Option Value} (I:ObjM h x dx C mA):∃od,PySem.W.InstAt h x (PySem.W.instObj C dx) C (some od)/\∀name,PySem.W.lookIn name od=some (mA name):=
 let ⟨od,ho,hl⟩:=ZJI I.ns
 ⟨od,⟨I.obj,rfl,rfl,ho⟩,hl⟩
section
variable {prog:Program} {w:World} {A:Around} {E:Value->Shared->Prop} {s:Shared} {K:PySem.W.Frag} {x dx C f:Addr} {mA:Str->Option Value} {name:Str} {v:Value}
theorem ZOw {expr:Bool} (X:K.In s.heap) (I:ObjM s.heap x dx C mA) (hg:PySem.W.plainGet K C name=true) (hh:PySem.W.hasDictIn K C=true)
  (ha:PySem.W.findIn K (.ref C) name=some none) (hv:mA name=some v) (hv':PySem.W.handedIn v=true) (h:Q v {s with toks:=s.toks + 1}):
  wpAny (model prog w) A (getAttr (.ref x) name expr) Q E s:=by
 obtain ⟨od,J,hl⟩:=I.look;exact PySem.W.get_value X J (PySem.W.plainGet_of hg).1 (PySem.W.findObj_own hh ha rfl (by rw [hl,hv])) hv' h
theorem ZM4 {pl:Sem Bool} {Q:Value×List Value->Shared->Prop} (X:K.In s.heap) (I:ObjM s.heap x dx C mA) (hg:PySem.W.plainGet K C name=true)
  (hf:PySem.W.findIn K (.ref C) name=some (some (.ref f))) (ht:PySem.W.isFn K (.ref f)=true) (hv:mA name=none) (h:Q (.ref f,[.ref x]) s):
  wpAny (model prog w) A (getMethod (.ref x) name pl) Q E s:=by
 obtain ⟨od,J,hl⟩:=I.look
 exact PySem.W.method_fn X J (PySem.W.plainGet_of hg).1 (PySem.W.plainGet_of hg).2 hf (beq_iff_eq.mp ht) (by show (PySem.W.lookIn name od).map (·.isSome)=some false;rw [hl,hv];rfl) h
theorem ZPR {ns:List Str} {Q:Unit->Shared->Prop} (X:K.In s.heap) (I:ObjM s.heap x dx C mA)
  (hs:PySem.W.findIn K (.ref C) "__setattr__"=some (some (.builtin "object.__setattr__"))) (hp:PySem.W.plainOver K C=true) (ht:PySem.W.takerIn K C name=some none) (hh:PySem.W.hasDictIn K C=true)
  (hw:PySem.Within mA ns) (hsz:ns.length<=sizeLine)
  (h:∀h',ObjM h' x dx C (λy=>if y=name then some v else mA y)->Heap.SameBut dx s.heap h'->Q () {s with heap:=h',toks:=s.toks + 2}):
  wpAny (model prog w) A (setAttr (.ref x) name v) Q E s:=by
 obtain ⟨od,J,hl⟩:=I.look;refine PySem.W.set_plain X J hs (PySem.W.osa_open (s:={s with toks:=s.toks + 1}) (r:=none) X J hp ht λb=> ?_);obtain ⟨cd,hc,hd'⟩:=PySem.W.any_some hh;have hx:s.heap.get? x=some ⟨.ref C,some dx,.plain,#[]⟩:=I.obj;refine wpAny_bind (wpAny_pure (wpAny_bind (wpAny_bind (wpAny_loadPart hx (wpAny_bind (PySem.W.Looks.here (s:={s with toks:=s.toks + 1}) (PySem.W.looks_clsIn X hc) ?_))))))
 rw [hd'];refine wpAny_pure (a:=some dx) (wpAny_bind (wpAny_pure (wpAny_bind ?_)));refine wpAny_nsSet1 (s:={s with toks:=s.toks + 1}) I.ns λh' hn2 hs2=> ?_
 obtain ⟨oD,esD,epD,hoD,hdD,hcD⟩:=hn2.count (PySem.Within.cons name v hw);refine wpAny_bind (wpAny_lookBehind hoD (by rw [hdD];exact pastItsLine_dict (Nat.le_trans hcD (by rw [List.length_cons];lia))) ?_);exact wpAny_pure (h _ ⟨(hs2.2 _ (Ne.symm I.ne)).trans I.obj,hn2,I.ne⟩ hs2)
theorem ZPD {R:Result->Shared->Prop} {vs:List Value} (X:K.In s.heap) (hm:PySem.W.makesIn K C=true)
  (hi:PySem.W.findIn K (.ref C) "__init__"=some (some (.ref f))) (hf:PySem.W.typeIn K (.ref f)=some (.type "function"))
  (h:codeAny (model prog w) (A.under (.builtin "type.__call__" ⟨.ref C::vs,kw⟩)) (.call (.ref f) ⟨.ref (s.heap.objs.size + 1)::vs,kw⟩) (PySem.W.InitBack (s.heap.objs.size + 1) R)
   {s with heap:=(s.heap.push PySem.W.emptyDict).push (PySem.W.instObj C s.heap.objs.size)}):
  codeAny (model prog w) A (.call (.ref C) ⟨vs,kw⟩) R s:=by
 obtain ⟨hh,g,d,t,os⟩:=s;exact PySem.W.make_core (PySem.W.makes_of X hm) (PySem.W.looks_findIn X hi) (λself=>PySem.W.bind_fn X self hf) (.inl rfl) h
end
noncomputable def Fl (f:Str) (v:V):List (Str×V)->List (Str×V)
 | []=> [(f,v)]
 | (g,x)::r=>if g=f then (g,v)::r else (g,x)::Fl f v r
theorem ZD6 (f g:Str) (v:V):∀fs:List (Str×V),(Fl f v fs).lookup g=if g=f then some v else fs.lookup g
 | []=>by
  show List.lookup g [(f,v)]=_;by_cases h:g=f
  ·have hb:(g == f)=true:=beq_iff_eq.mpr h;simp only [List.lookup,hb,if_pos h]
  ·have hb:(g == f)=false:=beq_eq_false_iff_ne.mpr h;simp only [List.lookup,hb,if_neg h]
 | (k,x)::r=>by
  have ih:=ZD6 f g v r
  rw [show Fl f v ((k,x)::r)=(if k=f then (k,v)::r else (k,x)::Fl f v r) from rfl]
  by_cases hk:k=f
  ·rw [if_pos hk];by_cases h:g=k
   ·have hb:(g == k)=true:=beq_iff_eq.mpr h;simp only [List.lookup,hb,if_pos (h.trans hk)]
   ·have hb:(g == k)=false:=beq_eq_false_iff_ne.mpr h;simp only [List.lookup,hb,if_neg (λe:g=f=>h (e.trans hk.symm))]
  ·rw [if_neg hk];by_cases h:g=k
   ·have hb:(g == k)=true:=beq_iff_eq.mpr h;simp only [List.lookup,hb,if_neg (λe:g=f=>hk (h.symm.trans e))]
   ·have hb:(g == k)=false:=beq_eq_false_iff_ne.mpr h;simp only [List.lookup,hb];exact ih
theorem Yg (f:Str) (v:V):∀fs:List (Str×V),f∈(Fl f v fs).map (·.1)/\∀g,g∈fs.map (·.1)->g∈(Fl f v fs).map (·.1)
 | []=>⟨by simp [Fl],λg h=>by simp at h⟩
 | (k,x)::r=>by
  obtain ⟨i1,i2⟩:=Yg f v r
  rw [show Fl f v ((k,x)::r)=(if k=f then (k,v)::r else (k,x)::Fl f v r) from rfl]
  by_cases hk:k=f
  ·rw [if_pos hk];subst hk;exact ⟨by simp,λg h=>by simpa using h⟩
  ·rw [if_neg hk];refine ⟨?_,λg h=> ?_⟩
   ·rw [List.map_cons];exact List.mem_cons_of_mem _ i1
   ·rw [List.map_cons] at h ⊢;rcases List.mem_cons.mp h with e | e
    ·exact List.mem_cons.mpr (.inl e)
    ·exact List.mem_cons_of_mem _ (i2 g e)
theorem ZEa (f:Str) (v:V):∀fs:List (Str×V),(Fl f v fs).length<=fs.length + 1
 | []=>by simp [Fl]
 | (k,x)::r=>by
  have ih:=ZEa f v r
  rw [show Fl f v ((k,x)::r)=(if k=f then (k,v)::r else (k,x)::Fl f v r) from rfl]
  by_cases hk:k=f
  ·rw [if_pos hk,List.length_cons,List.length_cons];lia
  ·rw [if_neg hk,List.length_cons,List.length_cons];lia
theorem RelO.some_of {o:Option Value} (r:RelO (some v) o):∃u,o=some u/\RelV v u:=by
 cases o with
 | none=>exact (show False from r).elim
 | some u=>exact ⟨u,rfl,r⟩
theorem RelO.none_of {o:Option Value} (r:RelO none o):o=none:=by
 cases o with
 | none=>rfl
 | some u=>exact (show False from r).elim
theorem ZO6 (r:RelV v u):PySem.W.handedIn u=true:=by
 cases v with
 | non=>cases (show u=Value.none from r);rfl
 | bl b=>cases (show u=Value.bool b from r);rfl
 | int i=>obtain ⟨t,e⟩:=(show∃t,u=Value.int i t from r);cases e;rfl
 | str x=>obtain ⟨t,e⟩:=(show∃t,u=Value.str x t from r);cases e;rfl
 | byt b=>obtain ⟨t,e⟩:=(show∃t,u=Value.bytes b t from r);cases e;rfl
 | flt b=>obtain ⟨t,e⟩:=(show∃t,u=Value.float b t from r);cases e;rfl
 | ref a=>cases (show u=Value.ref a from r);rfl
 | ty n=>cases (show u=Value.type n from r);rfl
section
variable {P:Program} {w:World} {H H':Hp} {h h':Heap} {a C dx:Addr} {fs fs':List (Str×V)}
theorem ZAz (hok:HOk P w H h) (e:H a=some (.ins C dx fs)):∃mA,ObjM h a dx C mA/\(∀f,RelO (fs.lookup f) (mA f))/\PySem.Within mA (fs.map (·.1))/\fs.length<=1000/\H dx=some (.own a):=by
 obtain ⟨d,z,ne,ob,mA,n,r,q⟩:=(show ObjOk P w H h a (.ins C dx fs) from hok a _ e)
 exact ⟨mA,⟨ob,n,ne⟩,r,q,z,d⟩
end
structure Cls (K:PySem.W.Frag) (C:Addr):Prop where
 pg:PySem.W.plainGet K C Str.empty=true
 hd:PySem.W.hasDictIn K C=true
 po:PySem.W.plainOver K C=true
 sa:PySem.W.findIn K (.ref C) "__setattr__"=some (some (.builtin "object.__setattr__"))
theorem Cls.get (c:Cls K C) (f:Str):PySem.W.plainGet K C f=true:=c.pg
noncomputable def NoAttr (K:PySem.W.Frag) (C:Addr) (f:Str):Prop:=PySem.W.findIn K (.ref C) f=some none
theorem NoAttr.taker {f:Str} (n:NoAttr K C f):PySem.W.takerIn K C f=some none:=by
 unfold PySem.W.takerIn
 rw [show PySem.W.findIn K (.ref C) f=some none from n]
 rfl
structure Meth (K:PySem.W.Frag) (C:Addr) (m:Str) (f:Addr):Prop where
 at_:PySem.W.findIn K (.ref C) m=some (some (.ref f))
 fn:PySem.W.isFn K (.ref f)=true
 kp:PySem.W.keepIn K (.ref f)=true
section
variable {X:Cx} {pins:List (Addr×Obj)} {σ:St} {H:Hp} {s:Shared} {a C dx:Addr} {fs:List (Str×V)} {f:Str} {v:V} {A:Around} {E:Value->Shared->Prop}
theorem ZIr {b:Bool} (I:Inv X pins σ H s) (e:H a=some (.ins C dx fs)) (c:Cls X.K C) (n:NoAttr X.K C f) (l:fs.lookup f=some v)
  (h:∀u s',Inv X pins σ H s'->RelV v u->Q u s'):wpAny (model X.prog X.w) A (getAttr (.ref a) f b) Q E s:=by
 obtain ⟨mA,O,r,_,_,_⟩:=ZAz I.hok e;obtain ⟨u,hu,ru⟩:=RelO.some_of (v:=v) (o:=mA f) (by rw [<-l];exact r f);exact ZOw I.kIn O (c.get f) c.hd n hu (ZO6 ru) (h u _ (I.tok _) ru)
theorem Yv {m:Str} {g:Addr} {pl:Sem Bool} {Q:Value×List Value->Shared->Prop} (I:Inv X pins σ H s) (e:H a=some (.ins C dx fs)) (c:Cls X.K C) (k:Meth X.K C m g) (l:fs.lookup m=none)
  (h:Q (.ref g,[.ref a]) s):wpAny (model X.prog X.w) A (getMethod (.ref a) m pl) Q E s:=by
 obtain ⟨mA,O,r,_,_,_⟩:=ZAz I.hok e;have hn:mA m=none:=RelO.none_of (by rw [<-l];exact r m);exact ZM4 I.kIn O (c.get m) k.at_ k.fn hn h
theorem ZPC {Q:Unit->Shared->Prop} (I:Inv X pins σ H s) (e:H a=some (.ins C dx fs)) (c:Cls X.K C) (n:NoAttr X.K C f) (hl:fs.length < 1000) (ry:RelV y u)
  (h:∀s',Inv X pins σ (upd H a (.ins C dx (Fl f y fs))) s'->Q () s'):wpAny (model X.prog X.w) A (setAttr (.ref a) f u) Q E s:=by
 obtain ⟨mA,O,r,wi,_,ho⟩:=ZAz I.hok e
 have hz:(fs.map (·.1)).length<=sizeLine:=by rw [List.length_map,sizeLine_eq];lia
 refine ZPR I.kIn O c.sa c.po n.taker c.hd wi hz λh' O' sb=>h _ ?_
 have hd:∃o,h'.get? dx=some o:=let ⟨o,_,_,e',_⟩:=O'.ns;⟨o,e'⟩;refine I.write (x:=a) (e:=dx) (by rw [e];exact True.intro) (.inr ho) (λb q hb z=>(sb.2 b hb).trans z) hd ?_;refine ⟨by rw [Bc O.ne];exact ho,?_,O.ne,O'.obj,_,O'.ns,λg=> ?_,λg hg=> ?_⟩
 ·have:=ZEa f y fs;lia
 ·show RelO ((Fl f y fs).lookup g) (if g=f then some u else mA g);rw [ZD6];by_cases q:g=f
  ·rw [if_pos q,if_pos q];exact ry
  ·rw [if_neg q,if_neg q];exact r g
 ·by_cases q:g=f
  ·rw [q];exact (Yg f y fs).1
  ·refine (Yg f y fs).2 g (wi g λz=>hg ?_);show (if g=f then some u else mA g)=none;rw [if_neg q];exact z
theorem Inv.made (I:Inv X pins σ H s):Inv X pins σ (upd (upd H s.heap.objs.size (.own (s.heap.objs.size + 1))) (s.heap.objs.size + 1) (.ins C s.heap.objs.size []))
  {s with heap:=(s.heap.push PySem.W.emptyDict).push (PySem.W.instObj C s.heap.objs.size)}:=by
 have e1:(s.heap.push PySem.W.emptyDict).get? s.heap.objs.size=some PySem.W.emptyDict:=Heap.get?_push_size s.heap rfl;have e2:((s.heap.push PySem.W.emptyDict).push (PySem.W.instObj C s.heap.objs.size)).get? (s.heap.objs.size + 1)=some (PySem.W.instObj C s.heap.objs.size):=by have:=Heap.get?_push_size (s.heap.push PySem.W.emptyDict) (o:=PySem.W.instObj C s.heap.objs.size) rfl;rwa [Heap.size_push] at this
 have e3:(s.heap.push PySem.W.emptyDict).Ns s.heap.objs.size (λ_=>none):=⟨PySem.W.emptyDict,#[],_,e1,rfl,(λe he=>absurd he (by simp)),λ_=>rfl⟩;have I1:=I.laid (a:=s.heap.objs.size) (o:=.own (s.heap.objs.size + 1)) (h':=s.heap.push PySem.W.emptyDict) (t':=s.toks) (λb u q=>Heap.get?_push_of_some _ q) (Nat.le_refl _) ⟨_,e1⟩;refine I1.laid (a:=s.heap.objs.size + 1) (o:=.ins C s.heap.objs.size []) (t':=s.toks) (λb u q=>Heap.get?_push_of_some _ q) (Nat.le_of_eq (Heap.size_push _ _)) ?_
 have ne:s.heap.objs.size≠s.heap.objs.size + 1:=Nat.ne_of_lt (Nat.lt_succ_self _);refine ⟨by rw [Bc ne,Gk],Nat.zero_le _,ne,e2,λ_=>none,(Heap.Ns1.of_empty e3).at λo q=>Heap.get?_push_of_some _ q,λ_=>True.intro,λy hy=>absurd rfl hy⟩
theorem ZND {prog:Program} {env:Env} {f:Str} {pos:Pos} (hb:attributeBase e f env (eval e env)=eval e env)
  (h:wpAny (model prog w) A (eval e env) (λo s₁=>wpAny (model prog w) A (getAttr o f true) Q E s₁) E s):wpAny (model prog w) A (eval (.Attribute e f pos) env) Q E s:=
 Attribute_any_ h (by rw [arm_eval_Attribute,hb])
end
noncomputable def tFld (K:PySem.W.Frag) (ta:TE) (f:Str):TE:=λσ H Q=>ta σ H λx H1=>∃a C dx fs v,x=.ref a/\H1 a=some (.ins C dx fs)/\Cls K C/\NoAttr K C f/\fs.lookup f=some v/\Q v H1
noncomputable def sFld (K:PySem.W.Frag) (ta tv:TE) (f:Str):TS:=λD σ H=>tv σ H λy H1=>ta σ H1 λx H2=>∃a C dx fs,x=.ref a/\H2 a=some (.ins C dx fs)/\Cls K C/\NoAttr K C f/\fs.length < 1000/\
 D.nx σ (upd H2 a (.ins C dx (Fl f y fs)))
section
variable {X:Cx} {o e value:Expr} {f:Str} {pos pos' tpos:Pos} {ta tv:TE}
theorem ZOL (he:PE X e ta) (hb:attributeBase e f X.env (eval e X.env)=eval e X.env):PE X (.Attribute e f pos) (tFld X.K ta f):=by intro pins s σ H Q I h;refine ZND hb (thn (he pins s σ H _ I h) λu s1 ⟨x,H1,I1,rx,a,C,dx,fs,v,ex,ea,c,n,l,q⟩=> ?_);subst ex;obtain rfl:u=Value.ref a:=rx;exact ZIr I1 ea c n l λu' s2 I2 ru=>⟨v,H1,I2,ru,q⟩
theorem ZMf (ha:PE X o ta) (hv:PE X value tv) (hs:swapsWith value (some (.Attribute o f pos')) pos.line X.env=pure false):PS X (.Assign [.Attribute o f pos'] value pos) (sFld X.K ta tv f):=by intro pins s σ H D I h;refine plainObj_wpAny_Assign_Attribute (thn (hv pins s σ H _ I h) λu s1 ⟨y,H1,I1,ry,q⟩=>thn (ha pins s1 σ H1 _ I1 q) λov s2 ⟨x,H2,I2,rx,a,C,dx,fs,ex,ea,c,n,l,q2⟩=> ?_) hs;subst ex;obtain rfl:ov=Value.ref a:=rx;exact ZPC I2 ea c n l ry λs3 I3=>⟨σ,_,I3,q2⟩
theorem ZQo {pl:Sem Bool} {m:Str} {apos:Pos} {args:List Expr} (he:PE X e te) (I:Inv X pins σ H s)
  (h:te σ H λx H1=>∃a C dx fs g,x=.ref a/\H1 a=some (.ins C dx fs)/\Cls X.K C/\Meth X.K C m g/\fs.lookup m=none/\
   ∀s1,Inv X pins σ H1 s1->wpAny (model X.prog X.w) X.A (callWith pos (.ref g) [.ref a] (backTo pos (starEach args X.env)) (backToKw pos (keywordEach [] X.env))) Q X.xe s1)
  (ht:eval (.Call (.Attribute e m apos) args [] pos) X.env=(do
   let ov<-eval e X.env
   standAt apos.atName
   let (f,first)<-holding [ov] (getMethod ov m pl)
   callWith pos f first (backTo pos (starEach args X.env)) (backToKw pos (keywordEach [] X.env)))):
  wpAny (model X.prog X.w) X.A (eval (.Call (.Attribute e m apos) args [] pos) X.env) Q X.xe s:=by
 refine PySem.W.methodCall_KW (pl:=pl) (thn (he pins s σ H _ I h) λu s1 ⟨x,H1,I1,rx,a,C,dx,fs,g,ex,ea,c,k,l,q⟩=> ?_) ht;subst ex;obtain rfl:u=Value.ref a:=rx;exact Yv I1 ea c k l (q s1 I1)
end
section
variable {X:Cx} {pins:List (Addr×Obj)} {σ:St} {H:Hp} {s:Shared} {A:Around} {E:Value->Shared->Prop} {Q:Value->Shared->Prop} {c:Value} {b:Bool}
end
structure Room (k:Nat) (A:Around):Prop where
 hd:A.handled=none
 dp:A.depth + 3 * k + 5 < recursionLimit
 un:A.units + 16 * k + 200 < cLine
theorem Room.mono {j:Nat} (r:Room k A) (h:j<=k):Room j A:=⟨r.hd,by have:=r.dp;lia,by have:=r.un;lia⟩
theorem Room.deeper (r:Room (k + 1) A) (env:Env):Room k (A.deeper env):=
 ⟨r.hd,by have:=r.dp;show A.depth + 1 + 3 * k + 5 < _;lia,by have:=r.un;show A.units + 3 + 16 * k + 200 < _;lia⟩
theorem ZKG:(A.under (.builtin "type.__call__" ⟨.ref C::us,kw⟩)).depth=A.depth + 1:=by
 first | rfl | simp [Around.under,Code.weight,Code.isCreation,Code.isGuard,Code.isCaller,Code.frames,Code.isFrame,guardIds]
theorem ZO7:(A.under (.builtin "type.__call__" ⟨.ref C::us,kw⟩)).units=A.units + 1:=by
 first | rfl | simp [Around.under,Code.cUnits,Code.frames,Code.isFrame]
theorem Room.make (r:Room (k + 1) A) (C:Addr) (us:List Value) (kw:List (Str×Value)):Room k (A.under (.builtin "type.__call__" ⟨.ref C::us,kw⟩)):=
 ⟨r.hd,by have:=r.dp;rw [ZKG];lia,by have:=r.un;rw [ZO7];lia⟩
theorem Room.depth (r:Room k A):A.depth < recursionLimit:=by have:=r.dp;lia
theorem Room.units (r:Room k A):A.units + 64 < cLine:=by have:=r.un;lia
noncomputable def Xe:TA:=λ_ H Q=>Q [] H
noncomputable def Z0 (ta:TE) (tr:TA):TA:=λσ H Q=>ta σ H λx H1=>tr σ H1 λxs H2=>Q (x::xs) H2
section
variable {X:Cx} {e:Expr} {es:List Expr} {te:TE} {t:TA} {pos:Pos}
theorem ZIf:PA X [] Xe:=λ_ _ _ _ H Q I h=>Calls.spliced_nil ⟨[],H,I,.nil,h⟩
theorem ZOR (ha:PE X e te) (hr:PA X es t) (hs:starEach (e::es) X.env=(false,eval e X.env)::starEach es X.env:=by rfl):PA X (e::es) (Z0 te t):=by intro pos pins s σ H Q I h;rw [hs];show wpAny _ _ (spliced ((false,eval e X.env)::backTo pos (starEach es X.env))) _ _ s;refine Calls.spliced_cons (thn (ha pins s σ H _ I h) λu s1 ⟨x,H1,I1,r1,q1⟩=> ?_);exact thn (hr pos pins s1 σ H1 _ I1 q1) λus s2 ⟨xs,H2,I2,r2,q2⟩=>⟨x::xs,H2,I2,.cons r1 r2,q2⟩
noncomputable def tTup (t:TA):TE:=λσ H Q=>t σ H λxs H1=>xs.length<=sizeLine/\∀p,H1 p=none->Q (.ref p) (upd H1 p (.tup xs))
noncomputable def tLst (t:TA):TE:=λσ H Q=>t σ H λxs H1=>xs.length<=sizeLine/\∀p,H1 p=none->Q (.ref p) (upd H1 p (.lst xs))
theorem ZPF {x1} (h:PA X es t):PE X (.Tuple es x1 pos) (tTup t):=by intro pins s σ H Q I hq;refine wpAny_Tuple_spliced (thn (h pos pins s σ H _ I hq) λus s1 ⟨xs,H1,I1,r,z,q⟩=>⟨by rw [<-r.length];exact z,?_⟩);have hf:H1 s1.heap.objs.size=none:=I1.hok.fresh (Nat.le_refl _);refine ⟨.ref s1.heap.objs.size,upd H1 s1.heap.objs.size (.tup xs),I1.laid (t':=s1.toks) (λb u e=>Heap.get?_push_of_some _ e) (Nat.le_refl _) ?_,rfl,q _ hf⟩;exact ⟨z,us,r,⟨_,Heap.get?_push_size _ rfl,rfl,_,rfl⟩⟩
theorem ZPW (h:PA X es t):PE X (.List es pos) (tLst t):=by intro pins s σ H Q I hq;refine wpAny_List_spliced (thn (h pos pins s σ H _ I hq) λus s1 ⟨xs,H1,I1,r,z,q⟩=>⟨by rw [<-r.length];exact z,?_⟩);have hf:H1 s1.heap.objs.size=none:=I1.hok.fresh (Nat.le_refl _);refine ⟨.ref s1.heap.objs.size,upd H1 s1.heap.objs.size (.lst xs),I1.laid (t':=s1.toks) (λb u e=>Heap.get?_push_of_some _ e) (Nat.le_refl _) ?_,rfl,q _ hf⟩;exact ⟨z,us,0,r,Heap.get?_push_size _ rfl⟩
end
noncomputable abbrev Sp:=List V->Hp->VK->XK->Prop
noncomputable abbrev CXT:=List Env->Hp->Shared->XK->Value->Shared->Prop
structure Env0 (P:Program) (w:World) (K:PySem.W.Frag) (mg:Str->Option Value) (base:Heap) (A:Around) (outer:List Env) (s:Shared) (H:Hp):Prop where
 frames:A.frames=some outer
 mod:Mod K mg base
 bs:∀b o,base.get? b=some o->s.heap.get? b=some o/\H b=none
 bsz:base.objs.size<=s.heap.objs.size
 funs:s.heap.FunFrames base outer
 frf:∀b∈frs outer,H b=none
 hok:HOk P w H s.heap
 bare:AllBare s.gens
noncomputable def CE (outer:List Env) (P:Program) (w:World) (H:Hp) (s:Shared) (Q:VK) (u:Value) (s':Shared):Prop:=
 ∃v H',s'.os=s.os/\AllBare s'.gens/\Un (frs outer) [] H H' s.heap s'.heap/\HOk P w H' s'.heap/\RelV v u/\Q v H'
noncomputable def CR (CX:CXT) (outer:List Env) (P:Program) (w:World) (H:Hp) (s:Shared) (Q:VK) (E:XK) (r:Result) (s':Shared):Prop:=
 match r with
 | .ok (.ret u)=>CE outer P w H s Q u s'
 | .ok _=>False
 | .error e=>CX outer H s E e s'
structure FnOk (P:Program) (w:World) (K:PySem.W.Frag) (mg:Str->Option Value) (base:Heap) (CX:CXT) (k:Nat) (f:Addr) (fd:FuncData) (ps:List Str) (sp:Sp):Prop where
 len:∀vs H Q E,sp vs H Q E->vs.length=ps.length
 run:∀(A:Around) (outer:List Env) (s:Shared) (H:Hp) (args:Args) (us:List Value) (vs:List V) (Q:VK) (E:XK),Room k A->Env0 P w K mg base A outer s H->BindsTo s fd args (ps.zip us)->Vals vs us->sp vs H Q E->
  codeAny (model P w) A (.call (.ref f) args) (CR CX outer P w H s Q E) s
theorem Env0.make {outer:List Env} (e:Env0 P w K mg base A outer s H) (C:Addr) (us:List Value) (kw:List (Str×Value)):
  Env0 P w K mg base (A.under (.builtin "type.__call__" ⟨.ref C::us,kw⟩)) outer s H:=⟨by first | exact e.frames | (simpa [Around.under,Code.envs,Code.isFrame,pushEnvs] using e.frames),e.mod,e.bs,e.bsz,e.funs,e.frf,e.hok,e.bare⟩
section
variable {X:Cx} {pins:List (Addr×Obj)} {σ:St} {H:Hp} {s s':Shared}
theorem Inv.env0 (I:Inv X pins σ H s):Env0 X.prog X.w X.K X.mg X.base X.A X.stack s H:=
 ⟨I.ok.frames,I.ok.mod,I.bs,Nat.le_trans I.ok.bsz I.sz,I.stack,I.ZHN,I.hok,I.bare⟩
theorem Inv.after {Q:VK} (I:Inv X pins σ H s) (h:CE X.stack X.prog X.w H s Q u s'):EP X pins σ Q u s':=by obtain ⟨v,H',os,bare,un,hok,r,q⟩:=h;obtain ⟨hh,g,d,t,os'⟩:=s';obtain rfl:os'=s.os:=os;exact ⟨v,H',I.call (h':=hh) (g':=g) (d':=d) (t':=t) (ch:= []) un hok bare (λb z=>absurd z (by simp)),r,q⟩
end
noncomputable def ZMx (sp:Sp) (dvs:List V) (E:XK) (t:TA):TE:=λσ H Q=>t σ H λvs H1=>sp (vs++dvs) H1 Q E
noncomputable def ZCD (C:Addr) (m:Str) (sp:Sp) (dvs:List V) (E:XK) (ta:TE) (t:TA):TE:=λσ H Q=>ta σ H λx H1=>∃a dx fs,x=.ref a/\H1 a=some (.ins C dx fs)/\fs.lookup m=none/\
 t σ H1 λvs H2=>sp (x::(vs++dvs)) H2 Q E
noncomputable def ZMk (C:Addr) (sp:Sp) (dvs:List V) (E:XK) (t:TA):TE:=λσ H Q=>t σ H λvs H1=>∀x dx,H1 x=none->H1 dx=none->dx≠x->
 sp (.ref x::(vs++dvs)) (upd (upd H1 dx (.own x)) x (.ins C dx [])) (λv H2=>v=.non/\Q (.ref x) H2) E
noncomputable def Binds (K:PySem.W.Frag) (fd:FuncData) (ps:List Str) (ds:List Value):Prop:=
 ∀(s:Shared) (us:List Value),K.In s.heap->(us++ds).length=ps.length->BindsTo s fd ⟨us,[]⟩ (ps.zip (us++ds))
theorem Binds.all {fd:FuncData} {ps:List Str} (h:∀us:List Value,us.length=ps.length->bindArgs fd ⟨us,[]⟩=pure (ps.zip us)):Binds K fd ps []:=λs us _ hl=>by rw [List.append_nil] at hl ⊢;exact .of_eq (h us hl)
noncomputable def Passes (CX:CXT) (X:Cx) (E:XK):Prop:=∀(pins:List (Addr×Obj)) (σ:St) (H:Hp) (s:Shared) (e:Value) (s':Shared),Inv X pins σ H s->CX X.stack H s E e s'->X.xe e s'
section
variable {X:Cx} {CX:CXT} {k:Nat} {f C:Addr} {fd:FuncData} {ps:List Str} {sp:Sp} {dvs:List V} {ds:List Value} {E:XK} {x m:Str} {p pos apos:Pos} {e o:Expr} {es:List Expr} {ta:TE} {t:TA}
theorem ZBj {Q:VK} (F:FnOk X.prog X.w X.K X.mg X.base CX k f fd ps sp) (hr:Room k X.A) (hb:Binds X.K fd ps ds) (hd:Vals dvs ds) (hx:Passes CX X E)
  (I:Inv X pins σ H s) (r:Vals vs us) (h:sp (vs++dvs) H Q E):wpAny (model X.prog X.w) X.A (call (.ref f) us) (EP X pins σ Q) X.xe s:=by
 have r2:Vals (vs++dvs) (us++ds):=r.append hd;have hl:(us++ds).length=ps.length:=by rw [<-r2.length];exact F.len _ _ _ _ h
 refine wpAny_call (codeAny_mono (F.run X.A X.stack s H ⟨us,[]⟩ (us++ds) (vs++dvs) Q E hr I.env0 (hb s us I.kIn hl) r2 h) λr s' hq=> ?_);cases r with
 | error e=>exact hx pins σ H s e s' I hq
 | ok fl=>
  cases fl with
  | ret u=>exact I.after hq
  | next=>exact False.elim hq
  | brk=>exact False.elim hq
  | cont=>exact False.elim hq
theorem ZH9 (F:FnOk X.prog X.w X.K X.mg X.base CX k f fd ps sp) (hr:Room k X.A) (hg:Gl X x) (hm:X.mg x=some (.ref f)) (hk:PySem.W.keepIn X.K (.ref f)=true) (hb:Binds X.K fd ps ds) (hd:Vals dvs ds) (hx:Passes CX X E)
  (ha:PA X (e::es) t) (hdb:(x == ("__debug__":Str))=false:=by decide) (he:starEach (e::es) X.env=(false,eval e X.env)::starEach es X.env:=by rfl) (hpl:(backTo pos (starEach es X.env)).any (·.1)=false:=by rfl):
  PE X (.Call (.Name x p) (e::es) [] pos) (ZMx sp dvs E t):=by
 intro pins s σ H Q I h;refine wpAny_Call_Name_kw (ZAe I hg hm ?_ hdb);refine PySem.W.callWith_K (h₀:=X.base) I.ok.mod.kin hk (thn (ha pos pins s σ H _ I h) λus s1 ⟨vs,H1,I1,r,q⟩=>⟨I1.kIn,?_⟩) he hpl;exact ZBj F hr hb hd hx I1 r q
theorem ZNz {pl:Sem Bool} (he:PE X o ta) (c:Cls X.K C) (hm:Meth X.K C m f) (F:FnOk X.prog X.w X.K X.mg X.base CX k f fd ps sp) (hr:Room k X.A) (hb:Binds X.K fd ps ds) (hd:Vals dvs ds) (hx:Passes CX X E) (ha:PA X (e::es) t)
  (hst:starEach (e::es) X.env=(false,eval e X.env)::starEach es X.env:=by rfl) (hpl:(backTo pos (starEach es X.env)).any (·.1)=false:=by rfl)
  (ht:eval (.Call (.Attribute o m apos) (e::es) [] pos) X.env=(do
   let ov<-eval o X.env
   standAt apos.atName
   let (f,first)<-holding [ov] (getMethod ov m pl)
   callWith pos f first (backTo pos (starEach (e::es) X.env)) (backToKw pos (keywordEach [] X.env))):=by rfl):
  PE X (.Call (.Attribute o m apos) (e::es) [] pos) (ZCD C m sp dvs E ta t):=by
 intro pins s σ H Q I h;refine PySem.W.methodCall_KW (pl:=pl) (thn (he pins s σ H _ I h) λu s1 ⟨x,H1,I1,rx,a,dx,fs,ex,ea,l,q⟩=> ?_) ht;subst ex;obtain rfl:u=Value.ref a:=rx;refine Yv I1 ea c hm l ?_
 refine PySem.W.callWith_K (first:= [.ref a]) (h₀:=X.base) I.ok.mod.kin hm.kp (thn (ha pos pins s1 σ H1 _ I1 q) λus s2 ⟨vs,H2,I2,r,q2⟩=>⟨I2.kIn,?_⟩) hst hpl
 exact ZBj (us:=.ref a::us) (vs:=.ref a::vs) F hr hb hd hx I2 (.cons rfl r) q2
theorem ZLc {pl:Sem Bool} (he:PE X o ta) (c:Cls X.K C) (hm:Meth X.K C m f) (F:FnOk X.prog X.w X.K X.mg X.base CX k f fd ps sp) (hr:Room k X.A) (hb:Binds X.K fd ps ds) (hd:Vals dvs ds) (hx:Passes CX X E)
  (ht:eval (.Call (.Attribute o m apos) [] [] pos) X.env=(do
   let ov<-eval o X.env
   standAt apos.atName
   let (f,first)<-holding [ov] (getMethod ov m pl)
   callWith pos f first (backTo pos (starEach [] X.env)) (backToKw pos (keywordEach [] X.env))):=by rfl):
  PE X (.Call (.Attribute o m apos) [] [] pos) (ZCD C m sp dvs E ta Xe):=by
 intro pins s σ H Q I h;refine PySem.W.methodCall_KW (pl:=pl) (thn (he pins s σ H _ I h) λu s1 ⟨x,H1,I1,rx,a,dx,fs,ex,ea,l,q⟩=> ?_) ht;subst ex;obtain rfl:u=Value.ref a:=rx;refine Yv I1 ea c hm l ?_
 exact PySem.W.callWith_K0 (first:= [.ref a]) I1.kIn hm.kp (ZBj (us:= [.ref a]) (vs:= [.ref a]) F hr hb hd hx I1 (.cons rfl .nil) q)
structure Mk (K:PySem.W.Frag) (C f:Addr):Prop where
 makes:PySem.W.makesIn K C=true
 init:PySem.W.findIn K (.ref C) "__init__"=some (some (.ref f))
 fn:PySem.W.isFn K (.ref f)=true
 kp:PySem.W.keepIn K (.ref C)=true
theorem ZJU {Q:VK} (M:Mk X.K C f) (F:FnOk X.prog X.w X.K X.mg X.base CX k f fd ps sp) (hr:Room (k + 1) X.A) (hb:Binds X.K fd ps ds) (hd:Vals dvs ds)
  (hx:Passes CX X E) (I:Inv X pins σ H s) (r:Vals vs us)
  (h:∀x dx,H x=none->H dx=none->dx≠x->sp (.ref x::(vs++dvs)) (upd (upd H dx (.own x)) x (.ins C dx [])) (λv H2=>v=.non/\Q (.ref x) H2) E):
  wpAny (model X.prog X.w) X.A (call (.ref C) us) (EP X pins σ Q) X.xe s:=by
 have hq:=h (s.heap.objs.size + 1) s.heap.objs.size (I.hok.fresh (Nat.le_succ _)) (I.hok.fresh (Nat.le_refl _)) (Nat.ne_of_lt (Nat.lt_succ_self _));have I2:=Inv.made (C:=C) I;have r2:Vals (V.ref (s.heap.objs.size + 1)::(vs++dvs)) (Value.ref (s.heap.objs.size + 1)::(us++ds)):=.cons rfl (r.append hd);have hl:(Value.ref (s.heap.objs.size + 1)::us++ds).length=ps.length:=by have e:=r2.length;rw [F.len _ _ _ _ hq] at e;exact e.symm
 refine wpAny_call (ZPD (f:=f) I.kIn M.makes M.init (beq_iff_eq.mp M.fn) (codeAny_mono (F.run _ X.stack _ _ ⟨Value.ref (s.heap.objs.size + 1)::us,[]⟩ (Value.ref (s.heap.objs.size + 1)::(us++ds)) _ _ E (hr.make C us [])
  (I2.env0.make C us []) (hb _ (Value.ref (s.heap.objs.size + 1)::us) I2.kIn hl) r2 hq) λr s' hq'=> ?_))
 cases r with
 | error e=>exact hx pins σ _ _ e s' I2 hq'
 | ok fl=>
  cases fl with
  | ret u=>
   obtain ⟨v,H',I3,rv,ev,q3⟩:=I2.after hq';subst ev;exact ⟨rv,⟨V.ref (s.heap.objs.size + 1),H',I3,rfl,q3⟩⟩
  | next=>exact False.elim hq'
  | brk=>exact False.elim hq'
  | cont=>exact False.elim hq'
theorem ZLh (M:Mk X.K C f) (F:FnOk X.prog X.w X.K X.mg X.base CX k f fd ps sp) (hr:Room (k + 1) X.A) (hg:Gl X x) (hm:X.mg x=some (.ref C)) (hb:Binds X.K fd ps ds) (hd:Vals dvs ds) (hx:Passes CX X E)
  (ha:PA X (e::es) t) (hdb:(x == ("__debug__":Str))=false:=by decide) (he:starEach (e::es) X.env=(false,eval e X.env)::starEach es X.env:=by rfl) (hpl:(backTo pos (starEach es X.env)).any (·.1)=false:=by rfl):
  PE X (.Call (.Name x p) (e::es) [] pos) (ZMk C sp dvs E t):=by
 intro pins s σ H Q I h;refine wpAny_Call_Name_kw (ZAe I hg hm ?_ hdb);refine PySem.W.callWith_K (h₀:=X.base) I.ok.mod.kin M.kp (thn (ha pos pins s σ H _ I h) λus s1 ⟨vs,H1,I1,r,q⟩=>⟨I1.kIn,?_⟩) he hpl;exact ZJU M F hr hb hd hx I1 r q
end
noncomputable def PK (X:Cx) (kws:List Keyword) (t:TA):Prop:=
 ∀(pos:Pos) (pins:List (Addr×Obj)) (s:Shared) (σ:St) (H:Hp) (Q:List V->Hp->Prop),Inv X pins σ H s->t σ H Q->wpAny (model X.prog X.w) X.A (evalAll ((backToKw pos (keywordEach kws X.env)).map (·.2))) (AP X pins σ Q) X.xe s
section
variable {X:Cx} {CX:CXT} {k:Nat} {f C:Addr} {fd:FuncData} {ps ks:List Str} {sp:Sp} {E:XK} {x m:Str} {p pos apos kpos:Pos} {e o:Expr} {es:List Expr} {kws:List Keyword} {te ta:TE} {t tk:TA} {nm:Option Str}
theorem ZIe:PK X [] Xe:=λ_ _ _ _ H Q I h=>wpAny_evalAll_nil ⟨[],H,I,.nil,h⟩
theorem ZOD (ha:PE X e te) (hr:PK X kws t):PK X (⟨nm,e,kpos⟩::kws) (Z0 te t):=by
 intro pos pins s σ H Q I h
 show wpAny _ _ (evalAll ((do let v<-eval e X.env;standAt pos;pure v)::(backToKw pos (keywordEach kws X.env)).map (·.2))) _ _ s
 refine wpAny_evalAll_cons (wpAny_bind (thn (ha pins s σ H _ I h) λu s1 ⟨x,H1,I1,r1,q1⟩=>wpAny_bind (wpAny_standAt (wpAny_pure ?_))));exact thn (hr pos pins s1 σ H1 _ I1 q1) λus s2 ⟨xs,H2,I2,r2,q2⟩=>⟨x::xs,H2,I2,.cons r1 r2,q2⟩
variable {g:List Value->List Value->List Value} {gV:List V->List V->List V}
end
structure FnScope (N P:List Str) (sc:Scope):Prop where
 kind:sc.kind=.function
 co:sc.isCoroutine=false
 gen:sc.isGenerator=false
 nd:N.Nodup
 pre:N.take P.length=P
 par:∀x∈P,sc.names.lookup x=some .local∨sc.names.lookup x=some .cell
 nofree:∀y∈sc.names,y.2≠ .free
theorem ZFM:∀{binds:List (Str×Value)} {m:Str->Option Value},(∀v,(x,v) ∉ binds)->bindL kindOf binds m x=m x
 | [],_,_=>rfl
 | (n,v)::r,m,h=>by
  unfold bindL;rw [ZFM λw hw=>h w (List.mem_cons_of_mem _ hw)];split
  ·have:x≠n:=by rintro rfl;exact h v List.mem_cons_self
   simp [this]
  ·rfl
theorem ZHP:∀{binds:List (Str×Value)} {m:Str->Option Value},(∀v,(x,v) ∉ binds)->bindC kindOf binds m x=m x
 | [],_,_=>rfl
 | (n,v)::r,m,h=>by
  unfold bindC;rw [ZHP λw hw=>h w (List.mem_cons_of_mem _ hw)];split
  ·rfl
  ·have:x≠n:=by rintro rfl;exact h v List.mem_cons_self
   simp [this]
theorem ZFZ {v:Value}:∀{P:List Str} {vs:List Value} {i:Nat} {m:Str->Option Value},P.Nodup->P[i]? =some x->vs[i]? =some v->kindOf x=some .local->
  bindL kindOf (P.zip vs) m x=some v
 | [],_,_,_,_,h,_,_=>by simp at h
 | _::_,[],_,_,_,_,h,_=>by simp at h
 | p::P,w::vs,0,m,nd,h1,h2,hk=>by simp at h1 h2;subst h1;subst h2;show bindL kindOf ((p,w)::P.zip vs) m p=_;unfold bindL;rw [ZFM λv hv=>(List.nodup_cons.mp nd).1 (List.of_mem_zip hv).1,if_pos hk];simp
 | p::P,w::vs,i + 1,m,nd,h1,h2,hk=>by show bindL kindOf ((p,w)::P.zip vs) m x=_;unfold bindL;exact ZFZ (i:=i) (List.nodup_cons.mp nd).2 (by simpa using h1) (by simpa using h2) hk
theorem ZDS {v:Value}:∀{P:List Str} {vs:List Value} {i:Nat} {m:Str->Option Value},P.Nodup->P[i]? =some x->vs[i]? =some v->kindOf x≠some .local->
  bindC kindOf (P.zip vs) m x=some v
 | [],_,_,_,_,h,_,_=>by simp at h
 | _::_,[],_,_,_,_,h,_=>by simp at h
 | p::P,w::vs,0,m,nd,h1,h2,hk=>by simp at h1 h2;subst h1;subst h2;show bindC kindOf ((p,w)::P.zip vs) m p=_;unfold bindC;rw [ZHP λv hv=>(List.nodup_cons.mp nd).1 (List.of_mem_zip hv).1,if_neg hk];simp
 | p::P,w::vs,i + 1,m,nd,h1,h2,hk=>by show bindC kindOf ((p,w)::P.zip vs) m x=_;unfold bindC;exact ZDS (i:=i) (List.nodup_cons.mp nd).2 (by simpa using h1) (by simpa using h2) hk
noncomputable def start (N:List Str) (vs:List V):St:=vs.map some++List.replicate (N.length - vs.length) none
noncomputable def Mw (CX:CXT) (P:Program) (w:World) (K:PySem.W.Frag) (mg:Str->Option Value) (base:Heap) (N:List Str) (qual:Str) (scope:Scope) (f:Addr) (cd:Value) (A:Around) (outer:List Env) (s:Shared) (H:Hp) (E:XK):Cx where
 prog:=P
 w:=w
 K:=K
 mg:=mg
 base:=base
 A:=A.deeper (envOfC qual scope s.heap.objs.size f cd)
 N:=N
 s₀:=s
 H₀:=H
 env:=envOfC qual scope s.heap.objs.size f cd
 outer:=outer
 stack:=envOfC qual scope s.heap.objs.size f cd::outer
 ex:= []
 calm:=true
 fn:=λ_=>true
 pn:= []
 xe:=λe s'=>wpAny (model P w) (A.deeper (envOfC qual scope s.heap.objs.size f cd)) (leaving (envOfC qual scope s.heap.objs.size f cd) e) (λ_ s''=>CX outer H s E e s'') (λe' s''=>CX outer H s E e' s'') s'
theorem ZGh {sc:Scope} {n:Nat} (h:sc.names.lookup x=some .cell):∃c,(cellsFrom n sc.names []).lookup x=some c:=by have q:=PySem.W.cellsFrom_some sc.names n [] (.inl h);exact Option.isSome_iff_exists.mp q
theorem ZNw {CX:CXT} {N ps:List Str} {qual:Str} {scope:Scope} {f:Addr} {cd:Value} {outer:List Env} {s1:Shared} {E:XK} 
  (S:FnScope N ps scope) (hd:A.handled=none) (e0:Env0 P w K mg base A outer s H) (hl:vs.length=ps.length) (r:Vals vs us)
  (x:InCallC s s.heap.objs.size (bindL (envOfC qual scope s.heap.objs.size f cd).kindOf (ps.zip us) λ_=>none) (cellsFrom (s.heap.objs.size + 1) scope.names []) (bindC (envOfC qual scope s.heap.objs.size f cd).kindOf (ps.zip us) λ_=>none) s1):
  Inv (Mw CX P w K mg base N qual scope f cd A outer s H E) [] (start N vs) H s1:=by
 have hpl:ps.length<=N.length:=by have:=congrArg List.length S.pre;rw [List.length_take] at this;lia
 obtain ⟨h1,tk,rfl,hk⟩:=x.done
 have noA:∀b:Addr,b ∉ (Mw CX P w K mg base N qual scope f cd A outer s H E).ex:=λb z=>absurd (show b∈([]:List Addr) from z) (by simp)
 refine ⟨⟨e0.mod,S.kind,rfl,rfl,Nat.le_refl _,λy z c h1 h2=> ?_,λy hy=> ?_,λy c _ h=> ?_,λ_=>hd,Around.frames_deeper e0.frames,.inr ⟨rfl,rfl⟩,λb z=>absurd z (noA b),e0.bs,e0.bsz,λb _ _=>noA b,λb z=>absurd z (noA b),e0.funs,e0.frf⟩,
  rfl,e0.bare,Un.kept hk,⟨_,x.toInCall.ns,λi y v h1 h2 h3=> ?_⟩,λy c h=>⟨_,x.cell y c h⟩,e0.hok.fresh (Nat.le_refl _),λy c h=> ?_,λp hp=>absurd (show p∈([]:List (Addr×Obj)) from hp) (by simp),e0.hok.kept hk,?_⟩
 ·exact name_of_addr x.apart (PySem.mem_of_lookup h1) (PySem.mem_of_lookup h2)
 ·have hy:scope.names.lookup y=some .cell∨scope.names.lookup y=some .free:=hy;rcases hy with hy | hy
  ·exact ZGh hy
  ·exact absurd rfl (S.nofree _ (PySem.mem_of_lookup hy))
 ·exact Nat.le_of_lt (x.above y c (PySem.mem_of_lookup h))
 ·have hi:i < vs.length:=by
   unfold start at h2;by_cases hi:i < vs.length
   ·exact hi
   ·rw [List.getElem?_append_right (by simpa using hi)] at h2;rw [List.getElem?_replicate] at h2
    split at h2 <;> cases h2
  have ha:vs[i]? =some v:=by
   unfold start at h2;rw [List.getElem?_append_left (by simpa using hi),List.getElem?_map] at h2;cases e:vs[i]? with
   | none=>rw [e] at h2;cases h2
   | some a=>rw [e] at h2;cases h2;rfl
  obtain ⟨u,hu,rv⟩:=r.get ha;have hp:ps[i]? =some y:=by rw [<-S.pre,List.getElem?_take_of_lt (by lia)];exact h1
  have ndP:ps.Nodup:=by rw [<-S.pre];exact S.nd.sublist (List.take_sublist _ _)
  refine ⟨u,rv,?_⟩;rcases S.par y (List.mem_of_getElem? hp) with k | k
  ·exact .inl ⟨k,ZFZ ndP hp hu k⟩
  ·obtain ⟨c,e⟩:=ZGh (n:=s.heap.objs.size + 1) k;refine .inr ⟨.inl k,c,e,?_⟩;have q:=x.cell y c e;rw [ZDS ndP hp hu (by show scope.names.lookup y≠_;rw [k];decide)] at q;exact q
 ·exact e0.hok.fresh (Nat.le_of_lt (x.above y c (PySem.mem_of_lookup h)))
 ·unfold start;show _=N.length;rw [List.length_append,List.length_map,List.length_replicate];lia
theorem ZLb {CX:CXT} {f:Addr} {name qual:Str} {params:Arguments} {scope:Scope} {dV kV doc pm cdv ct oc:Value} {an od:Option Addr}
  {osl:Array (Option Value)} {N ps:List Str} {sp:Sp} (lk:K.lookup f=some ⟨oc,od,.func (PySem.W.fnOf name qual params body scope dV kV doc pm an cdv ct),osl⟩) (hcd:PySem.W.codeIn K cdv qual=true) (S:FnScope N ps scope)
  (len:∀vs H Q E,sp vs H Q E->vs.length=ps.length)
  (hbody:∀(A:Around) (outer:List Env) (s:Shared) (H:Hp) (vs:List V) (Q:VK) (E:XK),Room k (A.deeper (envOfC qual scope s.heap.objs.size f cdv))->sp vs H Q E->
   ∃t,PSs (Mw CX P w K mg base N qual scope f cdv A outer s H E) body t/\t {nx:=λ_ H'=>Q .non H',rt:=Q} (start N vs) H):
  FnOk P w K mg base CX (k + 1) f (PySem.W.fnOf name qual params body scope dV kV doc pm an cdv ct) ps sp:=by
 refine ⟨len,λA outer s H args us vs Q E hr e0 hb r hsp=> ?_⟩;have hl:=len _ _ _ _ hsp;have KX:K.In s.heap:=e0.mod.kin.keeps λb o e=>(e0.bs b o e).1
 have lim:s.heap.NoLimit:=e0.mod.nolimit.keeps λb o e=>(e0.bs b o e).1
 have hkind:∀y∈ps.zip us,scope.names.lookup y.1=some .local∨(scope.names.lookup y.1=some .cell/\((cellsFrom (s.heap.objs.size + 1) scope.names []).lookup y.1).isSome=true):=λ⟨n,v⟩ hy=>by
  rcases S.par n (List.of_mem_zip hy).1 with q | q
  ·exact .inl q
  ·exact .inr ⟨q,PySem.W.cellsFrom_some _ _ _ (.inl q)⟩
 refine codeAny_call_function hr.depth (KX _ _ lk) rfl S.co S.gen rfl (PySem.W.codeRec_of KX hcd) (hb _ _ _ _ ?_);refine wpAny_newFunctionEnv_cells S.kind hkind λenv he s1 x=> ?_
 subst he;refine ⟨lim.keeps x.toInCall.keep,codeAny_func ?_⟩;obtain ⟨t,ht,hq⟩:=hbody A outer s H vs Q E (hr.deeper _) hsp;have I:Inv (Mw CX P w K mg base N qual scope f cdv A outer s H E) [] (start N vs) H s1:=ZNw S hr.hd e0 hl r x;refine wpAny_mono (ht [] s1 (start N vs) H _ I hq) (λfl s' hs=> ?_) λe s' hs=>hs
 have fin:∀{σ':St} {H':Hp} {v:V} {u:Value},Inv (Mw CX P w K mg base N qual scope f cdv A outer s H E) [] σ' H' s'->RelV v u->Q v H'->CE outer P w H s Q u s':=
  λ{σ' H' v u} J rv q=>⟨v,H',J.os,J.bare,J.base,J.hok,rv,q⟩
 cases fl with
 | ret u=>
  obtain ⟨v,σ',H',J,rv,q⟩:=hs;exact fin J rv q
 | next=>
  obtain ⟨σ',H',J,q⟩:=hs;exact fin (v:=V.non) (u:=Value.none) J rfl q
 | brk=>
  obtain ⟨_,_,_,q⟩:=hs;exact False.elim q
 | cont=>
  obtain ⟨_,_,_,q⟩:=hs;exact False.elim q
section
variable {X:Cx} {x:Str} {p pos:Pos} {e:Expr} {es:List Expr} {t:TA} {id T:String} {r:List V->Hp->VK->Prop}
noncomputable def tCB (r:List V->Hp->VK->Prop) (t:TA):TE:=λσ H Q=>t σ H λvs H1=>r vs H1 Q
theorem ZJV (hc:CallR X (.builtin id) r) (hg:Gl X x) (hm:X.mg x=none) (hv:bootBuiltins x=some (.builtin id)) (ha:PA X (e::es) t) (hn:x≠"__name__":=by decide) (hdb:(x == ("__debug__":Str))=false:=by decide)
  (he:starEach (e::es) X.env=(false,eval e X.env)::starEach es X.env:=by rfl) (hpl:(backTo pos (starEach es X.env)).any (·.1)=false:=by rfl):PE X (.Call (.Name x p) (e::es) [] pos) (tCB r t):=by
 intro pins s σ H Q I h;refine wpAny_Call_Name_kw (Jk I hg hm hv ?_ hn hdb);exact PyProof.Rows.callWith_builtin1 (thn (ha pos pins s σ H _ I h) λus s1 ⟨vs,H1,I1,r1,q1⟩=>hc pins s1 σ H1 vs us Q I1 r1 q1) he hpl
theorem ZL9 (hc:CallR X (.type T) r) (hg:Gl X x) (hm:X.mg x=none) (hv:bootBuiltins x=some (.type T)) (ha:PA X (e::es) t) (hn:x≠"__name__":=by decide) (hdb:(x == ("__debug__":Str))=false:=by decide)
  (he:starEach (e::es) X.env=(false,eval e X.env)::starEach es X.env:=by rfl) (hpl:(backTo pos (starEach es X.env)).any (·.1)=false:=by rfl):PE X (.Call (.Name x p) (e::es) [] pos) (tCB r t):=by
 intro pins s σ H Q I h;refine wpAny_Call_Name_kw (Jk I hg hm hv ?_ hn hdb);exact PyProof.Rows.callWith_type1 (thn (ha pos pins s σ H _ I h) λus s1 ⟨vs,H1,I1,r1,q1⟩=>hc pins s1 σ H1 vs us Q I1 r1 q1) he hpl
end
end L2
namespace HT
open PySem PyProof.Rows
section
open PySem.SeqAt
open PySem.AutoSeq1 (wpAny_loadPart')
open PySem.MeetsSeq PySem.MeetsSeq2 PySem.MeetsSeq3
end
section
variable {prog:Program} {w:World} {A:Around} {E:Value->Shared->Prop} {s:Shared}
theorem ZLm {t b:Addr} {vs ws:List Value} {Q:Value->Shared->Prop} (ht:IsTup s.heap t vs.toArray) (hb:IsTup s.heap b ws.toArray) (hv:vs≠ [])
  (h1:ws= []->Q (.ref t) s) (h2:ws≠ []->Q (.ref s.heap.objs.size) {s with heap:=s.heap.push {cls:=.type "tuple",data:=.seq (vs++ws).toArray}})
  (hsz:vs.length + ws.length<=sizeLine):wpAny (model prog w) A (binaryOp .Add (.ref t) (.ref b)) Q E s:=by
 obtain ⟨⟨cls,dd,data,sl⟩,ho,hc,n,hd⟩:=id ht;obtain ⟨⟨cls2,dd2,data2,sl2⟩,ho2,hc2,n2,hd2⟩:=id hb;simp only at hc hd hc2 hd2;subst hc hd hc2 hd2;have e:vs.toArray++ws.toArray=(vs++ws).toArray:=by simp
 by_cases hw:ws= []
 ·exact concat_meets ⟨_,ho,rfl⟩ ⟨_,ho2,rfl⟩ noFill_tuple_add seq_tuple_add PySem.F.slot_tuple_add PySem.F.entry_tuple_add (PySem.F.args_tuple_add_2 _ _)
   (tuple_addW1 t b vs.toArray ws.toArray n n2 dd dd2 sl sl2 (by simpa using hv) (by simp [hw])) ⟨ho,ho2,h1 hw⟩
 ·refine concat_meets ⟨_,ho,rfl⟩ ⟨_,ho2,rfl⟩ noFill_tuple_add seq_tuple_add PySem.F.slot_tuple_add PySem.F.entry_tuple_add (PySem.F.args_tuple_add_2 _ _)
   (tuple_addW2 t b vs.toArray ws.toArray n n2 dd dd2 sl sl2 (by simpa using hv) (by simpa using hw) (by rw [List.size_toArray,List.size_toArray];exact hsz)) ⟨ho,ho2,?_⟩
  rw [e];exact h2 hw
noncomputable def sIx (n d:Nat):Option Int->Nat
 | none=>d
 | some v=>if v < 0 then (v + (n:Int)).toNat else min v.toNat n
theorem ZFr (n d:Nat) (hd:d<=n) (o:Option Int):sIx n d o<=n:=by
 cases o with
 | none=>exact hd
 | some v=>
  show (if v < 0 then (v + (n:Int)).toNat else min v.toNat n)<=n;by_cases hv:v < 0
  ·rw [if_pos hv];lia
  ·rw [if_neg hv];exact Nat.min_le_right _ _
theorem ZHy (v:Int) (n d:Nat):(if v < 0 then max (v + (n:Int)) 0 else min v (n:Int))=((sIx n d (some v):Nat):Int):=by
 show (if v < 0 then max (v + (n:Int)) 0 else min v (n:Int))=(((if v < 0 then (v + (n:Int)).toNat else min v.toNat n):Nat):Int);by_cases hv:v < 0
 ·simp only [if_pos hv];lia
 ·simp only [if_neg hv];lia
theorem ZJy (lo hi:Option Int) (n:Nat):Builtin.Slice.sliceAdjust lo hi 1 (n:Int)=(((sIx n 0 lo:Nat):Int),((sIx n n hi:Nat):Int)):=by
 have h1:¬((1:Int) < 0):=by lia
 unfold Builtin.Slice.sliceAdjust;simp only [h1,if_false];refine Prod.ext ?_ ?_
 ·cases lo with
  | none=>rfl
  | some v=>exact ZHy v n 0
 ·cases hi with
  | none=>rfl
  | some v=>exact ZHy v n n
theorem ZJh (i j:Nat):Builtin.Slice.slicePlaces (i:Int) (j:Int) 1=j - i:=by
 unfold Builtin.Slice.slicePlaces;have h1:(1:Int) > 0:=by lia
 simp only [h1,if_true,Int.ediv_one]
 split <;> lia
theorem ZHh {v:Value} {o:Option Int} {Q:Option Int->Shared->Prop} (p:IsPart v o) (h:Q o s):wpAny (model prog w) A (Builtin.Slice.slicePartIndex v) Q E s:=by
 cases p with
 | none=>exact slicePart_none h
 | int i t=>exact slicePart_int h
theorem ZHD {sl:Addr} {vl vu:Value} {lo hi:Option Int} {n:Nat} {Q:Int×Int×Nat->Shared->Prop} (hs:s.heap.IsSliceOf sl vl vu .none) (pl:IsPart vl lo) (pu:IsPart vu hi)
  (h:Q (((sIx n 0 lo:Nat):Int),1,sIx n n hi - sIx n 0 lo) s):wpAny (model prog w) A (Builtin.Slice.sliceApplied (.ref sl) (pure (n:Int))) Q E s:=by
 obtain ⟨os,hos,hcs,hds⟩:=id hs;unfold Builtin.Slice.sliceApplied Builtin.Slice.sliceFields;refine wpAny_bind (wpAny_bind (wpAny_field hos hds (x:=vl) rfl (wpAny_bind (wpAny_field hos hds (x:=vu) rfl (wpAny_bind (wpAny_field hos hds (x:=.none) rfl (wpAny_pure ?_)))))));refine wpAny_bind (slicePart_none ?_);show wpAny _ _ (if ((1:Int) == 0)=true then _ else _) _ _ s;rw [if_neg (by decide)];refine wpAny_bind (ZHh pl (wpAny_bind (ZHh pu (wpAny_bind (wpAny_pure ?_)))))
 show wpAny _ _ (match Builtin.Slice.sliceAdjust lo hi 1 (n:Int) with | (lo,hi)=>pure (lo,(1:Int),Builtin.Slice.slicePlaces lo hi 1)) _ _ s
 rw [ZJy lo hi n];show wpAny _ _ (pure (((sIx n 0 lo:Nat):Int),(1:Int),Builtin.Slice.slicePlaces ((sIx n 0 lo:Nat):Int) ((sIx n n hi:Nat):Int) 1)) _ _ s;rw [ZJh];exact wpAny_pure h
theorem ZJ4 (xs:Array Value) (i k:Nat):((List.range k).filterMap λ(m:Nat)=>xs[((i:Int) + (m:Int) * 1).toNat]?).toArray=((xs.toList.drop i).take k).toArray:=by
 have e:(λ(m:Nat)=>xs[((i:Int) + (m:Int) * 1).toNat]?)=λm=>xs[i + m]? :=by
  funext m;have:((i:Int) + (m:Int) * 1).toNat=i + m:=by lia
  rw [this]
 rw [e];have:=pick_run xs i k;rw [List.filterMap_map] at this;have e2:((λx=>xs[x]?) ∘ λx=>i + x)=λm=>xs[i + m]? :=rfl
 rw [e2] at this;rw [this]
theorem ZLi {t sl:Addr} {items:Array Value} {vl vu:Value} {lo hi:Option Int} {Q:Value->Shared->Prop} (ht:IsTup s.heap t items) (hs:s.heap.IsSliceOf sl vl vu .none) (pl:IsPart vl lo) (pu:IsPart vu hi)
  (hw:¬(sIx items.size 0 lo=0/\sIx items.size items.size hi=items.size))
  (h:Q (.ref s.heap.objs.size) {s with heap:=s.heap.push {cls:=.type "tuple",data:=.seq ((items.toList.drop (sIx items.size 0 lo)).take (sIx items.size items.size hi - sIx items.size 0 lo)).toArray}})
  (hsz:items.size<=sizeLine):wpAny (model prog w) A (getItem (.ref t) (.ref sl)) Q E s:=by
 have htake:sizeOk (.seq ((items.toList.drop (sIx items.size 0 lo)).take (sIx items.size items.size hi - sIx items.size 0 lo)).toArray):=by show ((items.toList.drop (sIx items.size 0 lo)).take (sIx items.size items.size hi - sIx items.size 0 lo)).toArray.size<=sizeLine;rw [List.size_toArray,List.length_take,List.length_drop,Array.length_toList];lia
 have hj:sIx items.size items.size hi<=items.size:=ZFr _ _ (Nat.le_refl _) hi;obtain ⟨os,hos,hcs,hds⟩:=id hs;have hTs:s.TypeIs (.ref sl) "slice":=⟨os,hos,hcs⟩;unfold getItem
 try with_reducible refine wpAny_holding ?_
 first | refine wpAny_bind (wpAny_pure ?_) | skip
 refine wpAny_bind (wpAny_sequenceKey ht.typeIs (by decide) ?_);refine wpAny_bind (wpAny_callSpecial?_slot (name:=Str.ofString "__getitem__") ht.typeIs PyProof.Rows.slot_tuple_getitem
  (wpAny_call_entry PyProof.Rows.slot_tuple_getitem ht.typeIs entry_tuple_getitem ?_ (args_tuple_getitem _ _)))
 show wpAny _ _ (Builtin.Tuple.tupleItemsOf (.ref t) >>=_) _ _ s;refine wpAny_bind (tupleItemsOf_ ht ?_);refine wpAny_bind (wpAny_typeOf hTs ?_);rw [if_pos (by decide)];refine wpAny_bind (ZHD hs pl pu ?_);have hno:¬((((sIx items.size 0 lo:Nat):Int) == 0 && (1:Int) == 1 && (sIx items.size items.size hi - sIx items.size 0 lo) == items.size)=true):=by intro q;rw [Bool.and_eq_true,Bool.and_eq_true] at q;have q1:((sIx items.size 0 lo:Nat):Int)=0:=eq_of_beq q.1.1;have q2:sIx items.size items.size hi - sIx items.size 0 lo=items.size:=eq_of_beq q.2;exact hw ⟨by lia,by lia⟩
 show wpAny _ _ (if (((sIx items.size 0 lo:Nat):Int) == 0 && (1:Int) == 1 && (sIx items.size items.size hi - sIx items.size 0 lo) == items.size)=true then _ else _) _ _ s;rw [if_neg hno,ZJ4]
 first
  | exact wpAny_bind (m:=Builtin.Tuple.tupleExact _) (wpAny_newObj_type (wpAny_pure ⟨_,rfl,wpAny_pure h⟩) htake)
  | exact wpAny_bind (m:=Builtin.Tuple.tupleExact _) (wpAny_newObj_type (wpAny_bind (wpAny_pure (wpAny_pure ⟨_,rfl,wpAny_pure h⟩))) htake)
  | exact wpAny_bind (wpAny_bind (m:=Builtin.Tuple.tupleExact _) (wpAny_newObj_type (wpAny_pure (wpAny_pure ⟨_,rfl,wpAny_pure h⟩)) htake))
  | exact wpAny_bind (wpAny_bind (m:=Builtin.Tuple.tupleExact _) (wpAny_newObj_type (wpAny_pure ⟨_,rfl,wpAny_pure h⟩) htake))
end
end HT
namespace L2
open PySem PySem.Spec PyProof.Rows
variable {xs:List V} {pins:List (Addr×Obj)} {σ:St} {H:Hp} {s:Shared} {its:List Value}
noncomputable abbrev TO:=St->Hp->(Option Int->Hp->Prop)->Prop
noncomputable def PO (X:Cx) (e:Option Expr) (t:TO):Prop:=
 ∀(pins:List (Addr×Obj)) (s:Shared) (σ:St) (H:Hp) (Q:Option Int->Hp->Prop),Inv X pins σ H s->t σ H Q->
  wpAny (model X.prog X.w) X.A (evalPart e X.env) (λu s'=>∃o H',Inv X pins σ H' s'/\IsPart u o/\Q o H') X.xe s
noncomputable def ZIQ:TO:=λ_ H Q=>Q none H
noncomputable def ZJo (t:TE):TO:=λσ H Q=>t σ H λx H1=>∃i,x=.int i/\Q (some i) H1
section
variable {X:Cx} {e:Expr} {te:TE} {lo hi:Option Expr} {tl th:TO} {pos p2:Pos}
theorem ZNK:PO X none ZIQ:=by intro pins s σ H Q I h;rw [evalPart_none];exact wpAny_pure ⟨none,H,I,.none,h⟩
theorem ZIa (h:PE X e te):PO X (some e) (ZJo te):=by
 intro pins s σ H Q I hw;rw [evalPart_some];refine thn (h pins s σ H _ I hw) λu s1 ⟨x,H1,I1,r1,q1⟩=> ?_
 obtain ⟨i,rfl,q⟩:=q1;obtain ⟨t,rfl⟩:=r1;exact ⟨some i,H1,I1,.int i t,q⟩
noncomputable def SlR (X:Cx) (r:V->Option Int->Option Int->Hp->VK->Prop):Prop:=
 ∀(pins:List (Addr×Obj)) (s:Shared) (σ:St) (H:Hp) (x:V) (v vl vu:Value) (lo hi:Option Int) (sl:Addr) (Q:VK),Inv X pins σ H s->RelV x v->s.heap.IsSliceOf sl vl vu .none->IsPart vl lo->IsPart vu hi->r x lo hi H Q->
  ∃T id,typeLookup (.type T) "__getitem__"=pure (some (.builtin id))/\s.TypeIs v T/\wpAny (model X.prog X.w) X.A (getItem v (.ref sl)) (EP X pins σ Q) X.xe s
theorem SlR.or {r r':V->Option Int->Option Int->Hp->VK->Prop} (h:SlR X r) (h':SlR X r'):SlR X (λx lo hi H Q=>r x lo hi H Q∨r' x lo hi H Q):=by
 intro pins s σ H x v vl vu lo hi sl Q I rx hs pl pu q;rcases q with q | q
 ·exact h pins s σ H x v vl vu lo hi sl Q I rx hs pl pu q
 ·exact h' pins s σ H x v vl vu lo hi sl Q I rx hs pl pu q
noncomputable def tSl (r:V->Option Int->Option Int->Hp->VK->Prop) (te:TE) (tl th:TO):TE:=λσ H Q=>te σ H λx H1=>tl σ H1 λl H2=>th σ H2 λu H3=>r x l u H3 Q
theorem ZPL {r:V->Option Int->Option Int->Hp->VK->Prop} (hr:SlR X r) (he:PE X e te) (hl:PO X lo tl) (hu:PO X hi th):PE X (.Subscript e (.Slice lo hi none p2) pos) (tSl r te tl th):=by
 intro pins s σ H Q I h;refine Subscript_ (thn (he pins s σ H _ I h) λv s1 ⟨x,H1,I1,r1,q1⟩=> ?_);refine wpAny_Slice (thn (hl pins s1 σ H1 _ I1 q1) λvl s2 ⟨l,H2,I2,pl,q2⟩=>thn (hu pins s2 σ H2 _ I2 q2) λvu s3 ⟨u,H3,I3,pu,q3⟩=> ?_);rw [evalPart_none];refine wpAny_pure ?_;have I4:Inv X pins σ H3 {s3 with heap:=s3.heap.push {cls:=.type "slice",data:=.fields #[vl,vu,.none]}}:=I3.kept (t':=s3.toks) λb ob q=>Heap.get?_push_of_some _ q
 obtain ⟨T,id,hT,ht,hg⟩:=hr pins {s3 with heap:=s3.heap.push {cls:=.type "slice",data:=.fields #[vl,vu,.none]}} σ H3 x v vl vu l u s3.heap.objs.size Q I4 r1 (Heap.IsSliceOf.new ..) pl pu q3;show wpAny (model X.prog X.w) X.A (subscriptTail e (.Slice lo hi none p2) v (.ref s3.heap.objs.size)) (EP X pins σ Q) X.xe {s3 with heap:=s3.heap.push {cls:=.type "slice",data:=.fields #[vl,vu,.none]}}
 exact tail_any (ops:= [.ref s3.heap.objs.size,v]) ht hT hg (by with_unfolding_all rfl)
noncomputable def Ma (xs:List V) (lo hi:Option Int):List V:=(xs.drop (HT.sIx xs.length 0 lo)).take (HT.sIx xs.length xs.length hi - HT.sIx xs.length 0 lo)
theorem ZG1 (xs:List V) (lo hi:Option Int):(Ma xs lo hi).length<=xs.length:=by unfold Ma;rw [List.length_take,List.length_drop];lia
noncomputable def rSlT (K:PySem.W.Frag):V->Option Int->Option Int->Hp->VK->Prop:=λx lo hi H Q=>∃a xs,x=.ref a/\SqT K H a xs/\
 ¬(HT.sIx xs.length 0 lo=0/\HT.sIx xs.length xs.length hi=xs.length)/\∀p,H p=none->Q (.ref p) (upd H p (.tup (Ma xs lo hi)))
theorem ZOo:SlR X (rSlT X.K):=by
 intro pins s σ H x v vl vu lo hi sl Q I rx hs pl pu h;obtain ⟨a,xs,rfl,hx,hw,q⟩:=h;cases rx;obtain ⟨its,r,ht,hz⟩:=I.tuple hx;have hlen:its.toArray.size=xs.length:=by rw [List.size_toArray];exact r.length.symm
 refine ⟨"tuple",_,PyProof.Rows.slot_tuple_getitem.lookup,ht.typeIs,?_⟩;refine HT.ZLi ht hs pl pu (by rw [hlen];exact hw) ?_ (by rw [hlen];exact hz);rw [hlen];refine ⟨.ref s.heap.objs.size,_,I.laid (t':=s.toks) (o:=.tup (Ma xs lo hi)) (λb ob q=>Heap.get?_push_of_some _ q) (Nat.le_refl _) ?_,rfl,q _ (I.hok.fresh (Nat.le_refl _))⟩;exact ⟨Nat.le_trans (ZG1 xs lo hi) hz,_,(r.drop (HT.sIx xs.length 0 lo)).take (HT.sIx xs.length xs.length hi - HT.sIx xs.length 0 lo),IsTup.new _ _⟩
noncomputable def ZEq (K:PySem.W.Frag):R2:=λx y H Q=>∃a b xs ys,x=.ref a/\y=.ref b/\SqT K H a xs/\SqT K H b ys/\xs≠ []/\xs.length + ys.length<=sizeLine/\
 (ys= []->Q (.ref a) H)/\(ys≠ []->∀p,H p=none->Q (.ref p) (upd H p (.tup (xs++ys))))
theorem Vals.ZA3 {us:List Value} (r:Vals xs us):us= []↔xs= []:=by
 cases r with
 | nil=>simp
 | cons _ _=>simp
theorem ZM0:OpR X (binaryOp .Add) (ZEq X.K):=by
 intro pins s σ H x y v u Q I rx ry h;obtain ⟨a,b,xs,ys,rfl,rfl,ha,hb,hx,hz,q1,q2⟩:=h;cases rx;cases ry;obtain ⟨its,r1,p1,_⟩:=I.tuple ha;obtain ⟨its2,r2,p2,_⟩:=I.tuple hb;refine HT.ZLm p1 p2 (λz=>hx (r1.ZA3.mp z)) (λz=>⟨.ref a,H,I,rfl,q1 (r2.ZA3.mp z)⟩) (λz=> ?_) (by rw [<-r1.length,<-r2.length];exact hz);refine ⟨.ref s.heap.objs.size,_,I.laid (t':=s.toks) (o:=.tup (xs++ys)) (λb ob q=>Heap.get?_push_of_some _ q) (Nat.le_refl _) ?_,rfl,q2 (λw=>z (r2.ZA3.mpr w)) _ (I.hok.fresh (Nat.le_refl _))⟩
 exact ⟨by rw [List.length_append];exact hz,_,r1.append r2,IsTup.new _ _⟩
end
noncomputable def ixN (n:Nat) (i:Int):Option Nat:=if 0<=i then (if i < n then some i.toNat else none) else if -(n:Int)<=i then some (i + n).toNat else none
noncomputable def atI {α:Type} (xs:List α) (i:Int):Option α:=(ixN xs.length i).bind λj=>xs[j]?
theorem ZHg {n:Nat} {i:Int} {j:Nat} (h:ixN n i=some j):seqIndex? i n=some j/\j < n/\ -(n:Int)<=i/\i < n:=by
 unfold ixN at h;by_cases h0:0<=i
 ·rw [if_pos h0] at h;by_cases h1:i < n
  ·rw [if_pos h1] at h;have e:i.toNat=j:=Option.some.inj h;exact ⟨by rw [seqIndex_of h0 h1,e],by lia,by lia,h1⟩
  ·rw [if_neg h1] at h;cases h
 ·rw [if_neg h0] at h;by_cases h1: -(n:Int)<=i
  ·rw [if_pos h1] at h;have e:(i + n).toNat=j:=Option.some.inj h;exact ⟨by rw [seqIndex_neg (by lia) h1,e],by lia,h1,by lia⟩
  ·rw [if_neg h1] at h;cases h
theorem Xp {α:Type} {xs:List α} {i:Int} {v:α} (h:atI xs i=some v):∃j,seqIndex? i xs.length=some j/\xs[j]? =some v/\j < xs.length/\ -(xs.length:Int)<=i/\i < xs.length:=by
 unfold atI at h;cases e:ixN xs.length i with
 | none=>rw [e] at h;cases h
 | some j=>
  rw [e] at h;obtain ⟨h1,h2,h3,h4⟩:=ZHg e;exact ⟨j,h1,h,h2,h3,h4⟩
noncomputable def PlainIx (b:Expr):Prop:=∀o i,subscripted b false o i=operate [o,i] (getItem o i)
noncomputable def IxR (X:Cx) (r:R2):Prop:=
 ∀(value slice:Expr) (pins:List (Addr×Obj)) (s:Shared) (σ:St) (H:Hp) (x y:V) (v u:Value) (Q:VK),Inv X pins σ H s->RelV x v->RelV y u->r x y H Q->
  subscripted slice false v u=operate [v,u] (getItem v u)->wpAny (model X.prog X.w) X.A (subscriptTail value slice v u) (EP X pins σ Q) X.xe s
noncomputable def MtR (X:Cx) (id:String) (r:V->List V->Hp->VK->Prop):Prop:=
 ∀(pins:List (Addr×Obj)) (s:Shared) (σ:St) (H:Hp) (x:V) (xs:List V) (v:Value) (us:List Value) (Q:VK),Inv X pins σ H s->RelV x v->Vals xs us->r x xs H Q->
  wpAny (model X.prog X.w) X.A (call (.builtin id) (v::us)) (EP X pins σ Q) X.xe s
section
variable {X:Cx} {a b:Expr} {ta tb:TE} {pos:Pos}
theorem IxR.or {r r':R2} (h:IxR X r) (h':IxR X r'):IxR X (λx y H Q=>r x y H Q∨r' x y H Q):=by
 intro value slice pins s σ H x y v u Q I rx ry q hs;rcases q with q | q
 ·exact h value slice pins s σ H x y v u Q I rx ry q hs
 ·exact h' value slice pins s σ H x y v u Q I rx ry q hs
theorem ZNa {r:R2} (hr:IxR X r) (ha:PE X a ta) (hb:PE X b tb) (hs:PlainIx b):PE X (.Subscript a b pos) (tOp r ta tb):=by intro pins s σ H Q I h;exact Subscript_ (Yp ha hb I h λv u s2 x y H2 I2 rx ry q=>hr a b pins s2 σ H2 x y v u Q I2 rx ry q (hs _ _))
noncomputable def rIxL (K:PySem.W.Frag):R2:=λx y H Q=>∃p xs i v,x=.ref p/\y=.int i/\SqL K H p xs/\atI xs i=some v/\Q v H
noncomputable def rIxT (K:PySem.W.Frag):R2:=λx y H Q=>∃p xs i v,x=.ref p/\y=.int i/\SqT K H p xs/\atI xs i=some v/\Q v H
noncomputable def rIxS:R2:=λx y H Q=>∃z i c,x=.str z/\y=.int i/\z.length<=sizeLine/\atI z.cps.toList i=some c/\Q (.str ⟨#[c]⟩) H
theorem ZLf:IxR X (rIxL X.K):=by
 intro value slice pins s σ H x y v u Q I rx ry h hs;obtain ⟨p,xs,i,z,rfl,rfl,hq,he,q⟩:=h;cases rx;obtain ⟨t,rfl⟩:=ry;obtain ⟨its,r,pl,hz⟩:=I.list hq;obtain ⟨j,h1,h2,h3,h4,h5⟩:=Xp he;obtain ⟨w,ew,rw'⟩:=r.get h2;have hl:=r.length;have hn:=line63;have fin:EP X pins σ Q w s:=⟨z,H,I,rw',q⟩;by_cases h0:0<=i
 ·have hj:i.toNat=j:=by rw [seqIndex_of h0 h5] at h1;exact Option.some.inj h1
  exact item_listR pl.isList h0 (by lia) (by rw [hj];simpa using ew) fin hs
 ·have hj:(i + (its.toArray.size:Int)).toNat=j:=by rw [seqIndex_neg (by lia) h4] at h1;rw [List.size_toArray,<-hl];exact Option.some.inj h1
  exact subscriptTail_builtinR (x:=w) pl.isList.typeIs slot_list_getitem.lookup
   (wpAny_getItem_list_neg (Q:=λr s'=>r=w/\EP X pins σ Q r s') pl.isList (by lia) (by rw [List.size_toArray] <;> lia) (by lia) (by rw [hj];simpa using ew) ⟨rfl,fin⟩) hs
theorem ZNM:IxR X (rIxT X.K):=by
 intro value slice pins s σ H x y v u Q I rx ry h hs;obtain ⟨p,xs,i,z,rfl,rfl,hq,he,q⟩:=h;cases rx;obtain ⟨t,rfl⟩:=ry;obtain ⟨its,r,pl,hz⟩:=I.tuple hq;obtain ⟨j,h1,h2,h3,h4,h5⟩:=Xp he;obtain ⟨w,ew,rw'⟩:=r.get h2;have hl:=r.length;have hn:=line63;have fin:EP X pins σ Q w s:=⟨z,H,I,rw',q⟩;exact subscriptTail_builtinR (x:=w) pl.typeIs slot_tuple_getitem.lookup
  (getItem_tuple (j:=j) (Q:=λr s'=>r=w/\EP X pins σ Q r s') pl (by lia) (by lia) (by rw [List.size_toArray,<-hl];exact h1) (by simpa using ew) ⟨rfl,fin⟩) hs
theorem ZKJ:IxR X rIxS:=by
 intro value slice pins s σ H x y v u Q I rx ry h hs;obtain ⟨z,i,c,rfl,rfl,hz,he,q⟩:=h;obtain ⟨t,rfl⟩:=rx;obtain ⟨t',rfl⟩:=ry;obtain ⟨j,h1,h2,h3,h4,h5⟩:=Xp he;have hl:z.cps.toList.length=z.length:=by simp [Str.length]
 rw [hl] at h1 h4 h5;have hn:=line63;exact tail_any (typeIs_str s z t) slot_str_getitem.lookup (getItem_str (c:=c) (by have e1:decide (i < -(2 ^ 63:Int))=false:=decide_eq_false (by lia);have e2:decide (i ≥ 2 ^ 63)=false:=decide_eq_false (by lia);rw [e1,e2,Bool.or_false]) (by rw [h1];simpa using h2) ⟨.str ⟨#[c]⟩,H,I.tok _,⟨_,rfl⟩,q⟩) hs
noncomputable def rIx (K:PySem.W.Frag):R2:=λx y H Q=>rIxL K x y H Q∨rIxT K x y H Q∨rIxS x y H Q
theorem ZLF:IxR X (rIx X.K):=ZLf.or (ZNM.or ZKJ)
theorem ZIO (its:List Value) (n j:Nat) (u:Value):Obj.mapSeq (·.setIfInBounds j u) {cls:=.type "list",data:=.seq its.toArray n}={cls:=.type "list",data:=.seq (its.set j u).toArray n}:=by simp [Obj.mapSeq]
theorem Inv.lst {p:Addr} (I:Inv X pins σ H s) (h:H p=some (.lst xs)):
  ∃(its:List Value) (n:Nat),Vals xs its/\s.heap.get? p=some {cls:=.type "list",data:=.seq its.toArray n}/\xs.length<=sizeLine:=by
 obtain ⟨z,its,n,r,e⟩:=I.hok p _ h;exact ⟨its,n,r,e,z⟩
theorem Inv.ZOx {p:Addr} {ys:List V} {its':List Value} {n n':Nat} {f:Obj->Obj} (I:Inv X pins σ H s) (h:H p=some (.lst xs))
  (ho:s.heap.get? p=some {cls:=.type "list",data:=.seq its.toArray n}) (hf:f {cls:=.type "list",data:=.seq its.toArray n}={cls:=.type "list",data:=.seq its'.toArray n'}) (r:Vals ys its') (hz:ys.length<=sizeLine) (t:Nat):
  Inv X pins σ (upd H p (.lst ys)) {s with heap:=s.heap.update p f,toks:=t}:=by
 have e:(s.heap.update p f).get? p=some {cls:=.type "list",data:=.seq its'.toArray n'}:=by rw [Heap.get?_update_self f ho (by rw [hf] <;> rfl),hf]
 refine I.write (x:=p) (e:=p) (by rw [h];trivial) (.inl rfl) (λb u hb q=>(Heap.get?_update_other _ _ (Ne.symm hb)).trans q) ⟨_,e⟩ ?_;exact ⟨hz,its',n',r,e⟩
noncomputable def ZMG:V->V->V->Hp->(Hp->Prop)->Prop:=λo i v H Q=>∃p xs k j,o=.ref p/\i=.int k/\H p=some (.lst xs)/\ixN xs.length k=some j/\Q (upd H p (.lst (xs.set j v)))
theorem set_list:PSet X ZMG:=by
 intro pins s σ H o i v ov iv u Q I ro ri rv h;obtain ⟨p,xs,k,j,rfl,rfl,hp,hj,q⟩:=h;cases ro;obtain ⟨t,rfl⟩:=ri;obtain ⟨its,n,r,ho,hz⟩:=I.lst hp;obtain ⟨h1,h2,h3,h4⟩:=ZHg hj;have hl:=r.length;have hn:=line63
 have I':Inv X pins σ (upd H p (.lst (xs.set j v))) {s with heap:=s.heap.update p (Obj.mapSeq (·.setIfInBounds j u))}:=
  I.ZOx hp ho (ZIO its n j u) (r.set rv j) (by rw [List.length_set];exact hz) s.toks
 by_cases h0:0<=k
 ·have hk:k.toNat=j:=by rw [seqIndex_of h0 h4] at h1;exact Option.some.inj h1
  exact PySem.W.ki_setAt ho h0 (by lia) (by rw [List.size_toArray,<-hl];exact h4) (by rw [hk];exact ⟨_,I',q⟩)
 ·have hk:(k + (its.toArray.size:Int)).toNat=j:=by rw [seqIndex_neg (by lia) h3] at h1;rw [List.size_toArray,<-hl];exact Option.some.inj h1
  exact PySem.W.ki_setBack ho (by lia) (by rw [List.size_toArray,<-hl];exact h3) (by lia) (by rw [hk];exact ⟨_,I',q⟩)
theorem ZIv (lo hi:Option Int) (n:Nat):(sliceBounds lo hi none n).1=((HT.sIx n 0 lo:Nat):Int)/\(sliceBounds lo hi none n).2.1=((HT.sIx n n hi:Nat):Int)/\(sliceBounds lo hi none n).2.2=1:=by
 refine ⟨?_,?_,rfl⟩
 ·cases lo with
  | none=>simp [sliceBounds,HT.sIx]
  | some i=>
   simp only [sliceBounds,HT.sIx,Option.getD_none,show (1:Int) > 0 by decide,if_true];by_cases h:i < 0
   ·simp only [h,if_true] <;> lia
   ·simp only [h,if_false] <;> lia
 ·cases hi with
  | none=>simp [sliceBounds,HT.sIx]
  | some i=>
   simp only [sliceBounds,HT.sIx,Option.getD_none,show (1:Int) > 0 by decide,if_true];by_cases h:i < 0
   ·simp only [h,if_true] <;> lia
   ·simp only [h,if_false] <;> lia
theorem ZIx (its:List Value) (lo hi:Option Int):slicePick its.toArray lo hi none=((its.drop (HT.sIx its.length 0 lo)).take (HT.sIx its.length its.length hi - HT.sIx its.length 0 lo)).toArray:=by
 obtain ⟨h1,h2,h3⟩:=ZIv lo hi its.toArray.size;unfold slicePick;rw [h1,h2,h3]
 simp only [sliceRange_one,pick_run,List.size_toArray] <;> rfl
noncomputable def rSlL (K:PySem.W.Frag):V->Option Int->Option Int->Hp->VK->Prop:=λx lo hi H Q=>∃a xs,x=.ref a/\SqL K H a xs/\∀p,H p=none->Q (.ref p) (upd H p (.lst (Ma xs lo hi)))
theorem ZH1:SlR X (rSlL X.K):=by
 intro pins s σ H x v vl vu lo hi sl Q I rx hs pl pu h;obtain ⟨a,xs,rfl,hx,q⟩:=h;cases rx;obtain ⟨its,r,ht,hz⟩:=I.list hx;have hlen:=r.length;refine ⟨"list",_,slot_list_getitem.lookup,ht.isList.typeIs,?_⟩
 refine wpAny_getItem_list_slice ht.isList hs pl pu .none (by simp) ?_ (by rw [List.size_toArray] <;> lia)
 rw [ZIx,<-hlen];refine ⟨.ref s.heap.objs.size,_,I.laid (t':=s.toks) (o:=.lst (Ma xs lo hi)) (λb ob q=>Heap.get?_push_of_some _ q) (Nat.le_refl _) ?_,rfl,q _ (I.hok.fresh (Nat.le_refl _))⟩;exact ⟨Nat.le_trans (ZG1 xs lo hi) hz,_,0,(r.drop (HT.sIx xs.length 0 lo)).take (HT.sIx xs.length xs.length hi - HT.sIx xs.length 0 lo),Heap.get?_push_size _ rfl⟩
noncomputable def Mt:V->Bool
 | .non=>true
 | .bl _=>true
 | .int _=>true
 | .str _=>true
 | _=>false
noncomputable def eqV:V->V->Bool
 | .non,.non=>true
 | .bl a,.bl b=>a == b
 | .bl a,.int b=>(if a then 1 else 0) == b
 | .int a,.bl b=>a == (if b then 1 else 0)
 | .int a,.int b=>a == b
 | .str a,.str b=>a == b
 | _,_=>false
theorem ZKM {A:Around} {y x:V} {u v:Value} (ry:RelV y u) (rx:RelV x v) (fy:Mt y=true) (fx:Mt x=true):SeqAt.EqAt A s u v (eqV y x):=by
 cases y with
 | non=>
  cases ry;cases x with
  | non=>cases rx;exact SeqAt.EqAt.same _
  | bl b=>cases rx;exact SeqAt.EqAt.none_bool b
  | int b=>obtain ⟨t,rfl⟩:=rx;exact SeqAt.EqAt.none_int b t
  | str b=>obtain ⟨t,rfl⟩:=rx;exact SeqAt.EqAt.none_str b t
  | _=>exact absurd (show false=true from fx) Bool.false_ne_true
 | bl a=>
  cases ry;cases x with
  | non=>cases rx;exact SeqAt.EqAt.bool_none a
  | bl b=>cases rx;exact SeqAt.EqAt.bool_bool a b
  | int b=>obtain ⟨t,rfl⟩:=rx;exact SeqAt.EqAt.bool_int a b t
  | str b=>obtain ⟨t,rfl⟩:=rx;exact SeqAt.EqAt.bool_str a b t
  | _=>exact absurd (show false=true from fx) Bool.false_ne_true
 | int a=>
  obtain ⟨t',rfl⟩:=ry;cases x with
  | non=>cases rx;exact SeqAt.EqAt.int_none a t'
  | bl b=>cases rx;exact SeqAt.EqAt.int_bool a t' b
  | int b=>obtain ⟨t,rfl⟩:=rx;exact SeqAt.EqAt.int_int a t' b t
  | str b=>obtain ⟨t,rfl⟩:=rx;exact SeqAt.EqAt.int_str a t' b t
  | _=>exact absurd (show false=true from fx) Bool.false_ne_true
 | str a=>
  obtain ⟨t',rfl⟩:=ry;cases x with
  | non=>cases rx;exact SeqAt.EqAt.str_none a t'
  | bl b=>cases rx;exact SeqAt.EqAt.str_bool a t' b
  | int b=>obtain ⟨t,rfl⟩:=rx;exact SeqAt.EqAt.str_int a t' b t
  | str b=>obtain ⟨t,rfl⟩:=rx;exact SeqAt.EqAt.str_str a t' b t
  | _=>exact absurd (show false=true from fx) Bool.false_ne_true
 | _=>exact absurd (show false=true from fy) Bool.false_ne_true
theorem ZIu:CallR X (.builtin "len") (λxs H Q=>∃p ys,xs= [.ref p]/\(SqL X.K H p ys∨SqT X.K H p ys)/\Q (.int ys.length) H):=by
 intro pins s σ H xs us Q I r h;obtain ⟨p,ys,rfl,hq,q⟩:=h;obtain ⟨u,rfl,rx⟩:=vals1 r;cases rx;have hn:=line63;rcases hq with hq | hq
 ·obtain ⟨its,r',pl,hz⟩:=I.list hq;have hlen:=r'.length
  exact Calls.call_len_list pl.isList (by simp only [List.size_toArray] <;> lia) ⟨.int ys.length,H,I.tok _,⟨s.toks + 1,by rw [List.size_toArray,hlen]⟩,q⟩
 ·obtain ⟨its,r',pl,hz⟩:=I.tuple hq;have hlen:=r'.length
  exact len_tuple pl (by simp only [List.size_toArray] <;> lia) ⟨.int ys.length,H,I.tok _,⟨s.toks + 1,by rw [List.size_toArray,hlen]⟩,q⟩
theorem ZKv:CallR X (.builtin "len") (λxs H Q=>∃z,xs= [.str z]/\z.length<=sizeLine/\Q (.int z.length) H):=by intro pins s σ H xs us Q I r h;obtain ⟨z,rfl,hz,q⟩:=h;obtain ⟨u,rfl,t,rfl⟩:=vals1 r;have hn:=line63;exact len_str (by lia) ⟨.int z.length,H,I.tok _,⟨_,rfl⟩,q⟩
theorem CallR.or {f:Value} {r r':List V->Hp->VK->Prop} (h:CallR X f r) (h':CallR X f r'):CallR X f (λxs H Q=>r xs H Q∨r' xs H Q):=by
 intro pins s σ H xs us Q I rs q;rcases q with q | q
 ·exact h pins s σ H xs us Q I rs q
 ·exact h' pins s σ H xs us Q I rs q
theorem ZNP:CallR X (.type "list") (λxs H Q=>∃p ys,xs= [.ref p]/\(SqL X.K H p ys∨SqT X.K H p ys)/\∀l,H l=none->Q (.ref l) (upd H l (.lst ys))):=by
 intro pins s σ H xs us Q I r h;obtain ⟨p,ys,rfl,hq,q⟩:=h;obtain ⟨u,rfl,rx⟩:=vals1 r;cases rx;have fin:∀(its:List Value),Vals ys its->ys.length<=sizeLine->∀(h':Heap) (c':Nat),(∀b o',s.heap.get? b=some o'->h'.get? b=some o')->
   h'.get? s.heap.objs.size=some {cls:=.type "list",dict:=none,data:=.seq its.toArray c',slots:= #[]}->EP X pins σ Q (.ref s.heap.objs.size) {s with heap:=h'}:=λits r' hz h' c' kp e=>
  ⟨.ref s.heap.objs.size,_,I.laid (t':=s.toks) kp (Nat.le_refl _) (show ObjOk X.prog X.w _ h' _ (.lst ys) from ⟨hz,its,c',r',e⟩),rfl,q _ (I.hok.fresh (Nat.le_refl _))⟩
 rcases hq with hq | hq
 ·obtain ⟨its,r',pl,hz⟩:=I.list hq;have hlen:=r'.length;obtain ⟨o,ho,hc,n,hd⟩:=pl.isList
  exact call_list_seq p (.inl rfl) ho hc hd (λh' c' kp e=>fin its r' hz h' c' kp e) (by simp only [List.size_toArray] <;> lia)
 ·obtain ⟨its,r',pl,hz⟩:=I.tuple hq;have hlen:=r'.length;obtain ⟨o,ho,hc,n,hd⟩:=pl
  exact call_list_seq p (.inr rfl) ho hc hd (λh' c' kp e=>fin its r' hz h' c' kp e) (by simp only [List.size_toArray] <;> lia)
theorem ZJj:CallR X (.type "tuple") (λxs H Q=>∃p ys,xs= [.ref p]/\((SqL X.K H p ys/\∀l,H l=none->Q (.ref l) (upd H l (.tup ys)))∨(SqT X.K H p ys/\Q (.ref p) H))):=by
 intro pins s σ H xs us Q I r h;obtain ⟨p,ys,rfl,h⟩:=h;obtain ⟨u,rfl,rx⟩:=vals1 r;cases rx;rcases h with ⟨hq,q⟩ | ⟨hq,q⟩
 ·obtain ⟨its,r',pl,hz⟩:=I.list hq;have hlen:=r'.length
  refine call_tuple_list pl.isList (λh' kp=> ?_) (by simp only [List.size_toArray] <;> lia)
  have I1:Inv X pins σ H {s with heap:=h'}:=I.kept (t':=s.toks) kp;have I2:Inv X pins σ (upd H h'.objs.size (.tup ys)) {s with heap:=h'.push {cls:=.type "tuple",data:=.seq its.toArray}}:=
   I1.laid (t':=s.toks) (λb o e=>Heap.get?_push_of_some _ e) (Nat.le_refl _) (show ObjOk X.prog X.w _ _ _ (.tup ys) from ⟨hz,its,r',IsTup.new _ _⟩)
  exact ⟨.ref h'.objs.size,_,I2,rfl,q _ (I1.hok.fresh (Nat.le_refl _))⟩
 ·obtain ⟨its,r',pl,hz⟩:=I.tuple hq;exact call_tuple_same pl ⟨.ref p,H,I,rfl,q⟩
noncomputable def tyV (K:PySem.W.Frag) (T:String) (x:V) (H:Hp):Prop:=match x with
 | .str _=>T="str"
 | .int _=>T="int"
 | .ref p=>(T="list"/\∃xs,SqL K H p xs)∨(T="tuple"/\∃o,K.lookup p=some o/\o.cls=.type "tuple"/\o.dict=none)∨
   (T="dict"/\((∃kvs,H p=some (.dK kvs))∨∃kvs,H p=some (.dT kvs)))∨(T="set"/\∃S n,H p=some (.set S n))
 | _=>False
theorem ZMZ {T:String} {x:V} {v:Value} (I:Inv X pins σ H s) (r:RelV x v) (ty:tyV X.K T x H):
  s.TypeIs v T/\∀a,v=.ref a->∃ob,s.heap.get? a=some ob/\ob.dict=none:=by
 cases x with
 | str z=>
  obtain ⟨t,rfl⟩:=r
  cases (show T="str" from ty)
  exact ⟨typeIs_str s z t,λ_ e=>nomatch e⟩
 | int i=>
  obtain ⟨t,rfl⟩:=r
  cases (show T="int" from ty)
  exact ⟨typeIs_int s i t,λ_ e=>nomatch e⟩
 | ref p=>
  cases r;rcases ty with ⟨rfl,xs,hq⟩ | ⟨rfl,o,hk,hc,hd⟩ | ⟨rfl,hk⟩ | ⟨rfl,S,n,hk⟩
  ·obtain ⟨its,_,pl,_⟩:=I.list hq;refine ⟨pl.isList.typeIs,λa e=> ?_⟩;cases e;obtain ⟨o,n,e,c,hd,_⟩:=pl;exact ⟨o,e,hd⟩
  ·refine ⟨⟨o,I.kIn p o hk,hc⟩,λa e=> ?_⟩;cases e;exact ⟨o,I.kIn _ o hk,hd⟩
  ·have z:∃o,s.heap.get? p=some o/\o.ExactDict:=by
    rcases hk with ⟨kvs,hk⟩ | ⟨kvs,hk⟩
    ·obtain ⟨_,_,_,_,o,_,_,e,ex,_⟩:=I.hok p _ hk;exact ⟨o,e,ex⟩
    ·obtain ⟨_,_,_,_,o,_,_,e,ex,_⟩:=I.hok p _ hk;exact ⟨o,e,ex⟩
   obtain ⟨o,e,ex⟩:=z;refine ⟨⟨o,e,ex.1⟩,λa e2=> ?_⟩;cases e2;exact ⟨o,e,ex.2.1⟩
  ·obtain ⟨o,_,_,_,e,ex,_⟩:=I.hok p _ hk;refine ⟨⟨o,e,ex.1⟩,λa e2=> ?_⟩;cases e2;exact ⟨o,e,ex.2.1⟩
 | _=>exact False.elim ty
noncomputable def tBM (K:PySem.W.Frag) (T:String) (r:V->List V->Hp->VK->Prop) (to:TE) (t:TA):TE:=λσ H Q=>to σ H λx H1=>tyV K T x H1/\t σ H1 λxs H2=>r x xs H2 Q
variable {o e:Expr} {es:List Expr} {to:TE} {t:TA} {name:Str} {apos cpos:Pos} {T id:String} {r:V->List V->Hp->VK->Prop}
theorem ZOZ (pa:PlainAttrs T) (slot:Slot T name id) (hty:typeOf (.builtin id)=pure (.type "method_descriptor")) (hm:MtR X id r) (ho:PE X o to) (ha:PA X (e::es) t)
  (hbase:attributeBase o name X.env (eval o X.env)=eval o X.env:=by rfl)
  (hfew:((backTo cpos (starEach (e::es) X.env)).all (λx=> !x.1) && (backToKw cpos (keywordEach [] X.env)).all (λx=>x.1.isSome)
   && decide ((e::es).length + ([]:List Keyword).length + (if ([]:List Keyword).isEmpty then 0 else 1) < 30))=true:=by rfl)
  (hline:(apos.endLine == cpos.line)=true:=by rfl) (hs:starEach (e::es) X.env=(false,eval e X.env)::starEach es X.env:=by rfl) (hplain:(backTo cpos (starEach es X.env)).any (·.1)=false:=by rfl):
  PE X (.Call (.Attribute o name apos) (e::es) [] cpos) (tBM X.K T r to t):=by
 intro pins s σ H Q I h;refine wpAny_Call_method_late hbase hfew hline rfl (thn (ho pins s σ H _ I h) λv s1 ⟨x,H1,I1,r1,ty,q1⟩=> ?_);obtain ⟨h1,h2⟩:=ZMZ I1 r1 ty;refine ⟨T,id,pa,slot,hty,h1,h2,?_⟩;have hA:=ha cpos pins s1 σ H1 _ I1 q1;rw [hs] at hA ⊢
 refine Calls.callWith_builtin (by show (false || (backTo cpos (starEach es X.env)).any (·.1))=false;rw [hplain] <;> rfl) (Calls.evalArgs_plain ?_)
 exact thn hA λus s2 ⟨vs,H2,I2,r2,q2⟩=>hm pins s2 σ H2 x vs v us Q I2 r1 r2 q2
end
noncomputable def MtM (X:Cx) (id:String) (r:V->List V->Hp->VK->Prop):Prop:=
 ∀(pins:List (Addr×Obj)) (s:Shared) (σ:St) (H:Hp) (x:V) (xs:List V) (v:Value) (us:List Value) (Q:VK),Inv X pins σ H s->RelV x v->Vals xs us->r x xs H Q->
  wpAny (model X.prog X.w) X.A (call (.builtin id) (v::us)) (EP X pins σ Q) X.xe s
theorem Vals.one:∀{x:V} {us:List Value},Vals [x] us->∃u,us= [u]/\RelV x u
 | _,_,.cons r .nil=>⟨_,rfl,r⟩
theorem Vals.rep {us:List Value} (h:Vals xs us):∀k:Nat,Vals (List.replicate k xs).flatten (List.replicate k us).flatten
 | 0=>.nil
 | k + 1=>by rw [List.replicate_succ,List.replicate_succ,List.flatten_cons,List.flatten_cons];exact Vals.append h (Vals.rep h k)
theorem foldl_rep (its:List Value):∀(k:Nat) (acc:List Value),
  List.foldl (λx1 x2=>x1++x2) acc.toArray (List.replicate k its.toArray)=(acc++(List.replicate k its).flatten).toArray
 | 0,acc=>by simp
 | k + 1,acc=>by
  have e:acc.toArray++its.toArray=(acc++its).toArray:=by simp
  have e2:(acc++its)++(List.replicate k its).flatten=acc++(List.replicate (k + 1) its).flatten:=by rw [List.replicate_succ,List.flatten_cons,List.append_assoc]
  rw [<-e2,<-foldl_rep its k (acc++its),<-e,List.replicate_succ,List.foldl_cons]
section
variable {X:Cx} {pins:List (Addr×Obj)} {σ:St} {H:Hp} {s:Shared} {l b:Addr} {xs ys zs:List V}
theorem Inv.lset {its':List Value} {n:Nat} {f:Array Value->Array Value} {t':Nat} (I:Inv X pins σ H s) (hH:H l=some (.lst xs))
  (e:s.heap.get? l=some {cls:=.type "list",data:=.seq its.toArray n}) (hf:f its.toArray=its'.toArray) (hv:Vals ys its') (hz:ys.length<=sizeLine):
  Inv X pins σ (upd H l (.lst ys)) {s with heap:=s.heap.update l (Obj.mapSeq f),toks:=t'}:=by
 have q:=PySem.IsL.update e f;rw [hf] at q;refine I.write (x:=l) (e:=l) (by rw [hH];exact trivial) (.inl rfl) (λb' u hb hu=>(Heap.get?_update_other s.heap (Obj.mapSeq f) (Ne.symm hb)).trans hu) ⟨_,q⟩ ?_;exact ⟨hz,its',_,hv,q⟩
theorem Inv.lnew {t':Nat} (I:Inv X pins σ H s) (hv:Vals ys its) (hz:ys.length<=sizeLine):
  Inv X pins σ (upd H s.heap.objs.size (.lst ys)) {s with heap:=s.heap.push {cls:=.type "list",data:=.seq its.toArray},toks:=t'}:=
 I.laid (λ_ _ q=>Heap.get?_push_of_some _ q) (Nat.le_refl _) ⟨hz,its,0,hv,Heap.get?_push_size _ rfl⟩
theorem Inv.fresh (I:Inv X pins σ H s):H s.heap.objs.size=none:=I.hok.fresh (Nat.le_refl _)
theorem Inv.lstM (I:Inv X pins σ H s) (hH:H l=some (.lst xs)):xs.length<=sizeLine/\∃(its:List Value) (n:Nat),Vals xs its/\xs.length=its.length/\s.heap.get? l=some {cls:=.type "list",data:=.seq its.toArray n}:=by obtain ⟨z,its,n,r,e⟩:=I.hok l _ hH;exact ⟨z,its,n,r,r.length,e⟩
theorem ZId {n:Nat} (h:n<=sizeLine):Builtin.List.listTooLong n=false:=by unfold Builtin.List.listTooLong;exact decide_eq_false (by lia)
end
section
variable {X:Cx}
noncomputable def ZNu:V->List V->Hp->VK->Prop:=λx vs H Q=>∃l xs y,x=.ref l/\vs= [y]/\H l=some (.lst xs)/\xs.length < sizeLine/\Q .non (upd H l (.lst (xs++ [y])))
theorem ZKa:MtM X "list.append" ZNu:=by
 intro pins s σ H x vs v us Q I rx rv h;obtain ⟨l,xs,y,rfl,rfl,hH,hz,q⟩:=h;cases rx;obtain ⟨u,rfl,ru⟩:=rv.one;obtain ⟨z,its,n,r,hl,e⟩:=I.lstM hH;refine call_meets F.slot_list_append ⟨_,e,rfl⟩ F.entry_list_append (F.args_list_append_2 _ _) (PySem.list_append l its.toArray n u (by rw [List.size_toArray];lia)) ⟨e,?_⟩;refine ⟨.non,_,I.lset (its':=its++ [u]) hH e (by simp) (r.append (.cons ru .nil)) ?_,rfl,q⟩
 rw [List.length_append,List.length_singleton];lia
noncomputable def rRep:R2:=λx y H Q=>∃l k xs,x=.ref l/\y=.int k/\H l=some (.lst xs)/\ -(2 ^ 63)<=k/\k < 2 ^ 63/\xs.length * k.toNat<=sizeLine/\
 ∀p,H p=none->Q (.ref p) (upd H p (.lst (List.replicate k.toNat xs).flatten))
theorem len_rep {α:Type} (xs:List α) (k:Nat):(List.replicate k xs).flatten.length=k * xs.length:=by
 induction k with
 | zero=>simp
 | succ k ih=>rw [List.replicate_succ,List.flatten_cons,List.length_append,ih,Nat.succ_mul,Nat.add_comm]
theorem ZLU:OpR X (binaryOp .Mult) rRep:=by
 intro pins s σ H x y v u Q I rx ry h;obtain ⟨l,k,xs,rfl,rfl,hH,h1,h2,hz,q⟩:=h;cases rx;obtain ⟨t,rfl⟩:=ry;obtain ⟨z,its,n,r,hl,e⟩:=I.lstM hH;have hlen:its.toArray.size * k.toNat<=sizeLine:=by rw [List.size_toArray,<-hl];exact hz
 have hcap:¬its.toArray.size * k.toNat > (2 ^ 63 - 1) / 8:=by
  have:(sizeLine:Nat)<=(2 ^ 63 - 1) / 8:=by decide
  lia
 have hfit:¬(!Builtin.List.listFitsIndex k)=true:=by rw [fitsIndex_both h1 h2];exact Bool.false_ne_true
 have hlong:¬Builtin.List.listTooLong (its.toArray.size * k.toNat)=true:=by rw [ZId hlen];exact Bool.false_ne_true
 have hnew:List.foldl (λx1 x2=>x1++x2) #[] (List.replicate (if its.toArray.isEmpty=true then 0 else k.toNat) its.toArray)=(List.replicate k.toNat its).flatten.toArray:=by
  have f0:∀m:Nat,List.foldl (λx1 x2=>x1++x2) #[] (List.replicate m its.toArray)=(List.replicate m its).flatten.toArray:=λm=>by have:=foldl_rep its m [];rw [List.nil_append] at this;exact this
  rw [f0];cases its with
  | nil=>simp
  | cons a r'=>rw [if_neg (by simp)]
 refine wpAny_binaryOp_repeat_ref (T:="list") (U:="int") (by decide) ⟨_,e,rfl⟩ (λs'=>typeIs_int s' k t) noFill_list_mul F.fills_int_mul F.slot_int_rmul repeat_list F.slot_int_index.lookup
  (call_meets F.slot_int_rmul (typeIs_int s k t) F.entry_int_rmul (F.args_int_rmul_2 _ _) (int___rmul___int_list k t l its.toArray n)
   ⟨e,rfl,⟨_,e,rfl⟩,call_meets F.slot_list_mul ⟨_,e,rfl⟩ F.entry_list_mul (F.args_list_mul_2 _ _) (AutoListH.list___mul___list_int_3 l its.toArray n k t hfit hcap hlong) ⟨e,?_⟩⟩)
 rw [hnew];exact ⟨.ref _,_,I.lnew (t':=s.toks) (r.rep k.toNat) (by rw [len_rep,Nat.mul_comm];exact hz),rfl,q _ I.fresh⟩
end
section
variable {prog:Program} {w:World} {A:Around} {E:Value->Shared->Prop} {s:Shared}
end
section
variable {X:Cx}
end
end L2
namespace Att
open PySem PySem.W PySem.Calls PyProof.Rows
variable {h:Heap}
theorem ZOm {P:Params} :∀(ns:List Int) (vs:List Value),WellAll P h vs (ns.map WData.int)->IntsAre vs ns:=by
 intro ns
 induction ns with
 | nil=>
  intro vs w;rw [List.map_nil] at w;cases w;exact .nil
 | cons n ns ih=>
  intro vs w;rw [List.map_cons] at w;cases w with
  | cons a b=>
   cases a;exact .cons _ _ (ih _ b)
theorem ZIz {l:OpenLaw} {n:Nat} (hn:l.most=some n) {P:Params} {args:List WData} {vals:List Value}
  (hpre:l.row.toRowW.claim.pre args=true) (hwl:WellAll P h vals args):
  ∃a vs ns,vals= [Value.ref a]/\args= [WData.list (ns.map WData.int)]/\h.get? a=some {cls:=.type "list",data:=.seq vs.toArray}/\IntsAre vs ns/\ns.length<=n:=by
 have hsh:WShape.hasAll [] args [.list .int]=true:=(pre_splitW hpre).1;have hc:l.pre.holds [] {args:=args}=true:=(pre_splitW hpre).2;obtain ⟨d,r,rfl,h1,h2⟩:=hasAllW_cons hsh;obtain rfl:=hasAllW_nil h2;obtain ⟨xs,rfl,h3⟩:=hasW_list h1;obtain ⟨ns,rfl⟩:=items_int h3;have hlen:ns.length<=n:=by
  unfold OpenLaw.pre at hc;have h4:(WTm.not (.lt (.lit (.int (n:Int))) (.len (.arg 0)))).holds [] {args:= [.list (ns.map .int)]}=true:=by have h4:=(holds_andW hc).1;rw [hn] at h4;exact h4
  have h5:=condW_of h4 (w_not (w_lt w_lit (w_len_list (w_arg rfl))));rw [List.length_map] at h5;refine Nat.le_of_not_lt λq=> ?_
  have q':(n:Int) < ((ns.length:Nat):Int):=by lia
  first
   | (rw [decide_eq_true q'] at h5;exact absurd h5 (by decide))
   | (simp at h5;lia)
 cases hwl with
 | cons w1 w2=>
  cases w2;cases w1 with
  | list ho hall=>exact ⟨_,_,ns,rfl,rfl,ho,ZOm ns _ hall,hlen⟩
theorem ZMM (l:OpenLaw) (args:List WData):l.row.toRowW.claim.post args (.bool true) args=true:=
 postW_of (r:=l.row.toRowW) (X:=(true == true))
  (show WShape.has [] (.bool true) .bool=true by first | rfl | decide | simp [WShape.has,WShape.arms,WShape.armsAll])
  (show (WTm.eq .res (.lit (.bool true))).value [] {args:=args,res:=some (.bool true),after:=args}=some (.bool (true == true)) from w_eq_bool (w_res rfl) w_lit) rfl
theorem ZM9 {l:OpenLaw} {n:Nat} {q:Program} {loose:List Str} {XP:(Str->Option Value)->Heap->Prop} {YP:World->Heap->Prop} {d:DefRec}
  (hn:l.most=some n) (hdf:d.params.defaults= [])
  (call:∀(w:World) (s₀ s₁:Shared) (mg mb:Str->Option Value) (fa:Addr) (o:Obj) (pm cd doc:Value) (a:Addr) (vs:List Value) (ns:List Int),
   Ground q loose [] XP w s₀ mg mb s₁.heap->YP w s₁.heap->
   s₁.heap.get? fa=some o->o.data=.func (docDef d.name d.params d.body d.scope pm cd doc)->s₁.heap.CodeRec cd d.name->mg d.name=some (.ref fa)->
   s₁.heap.get? a=some {cls:=.type "list",data:=.seq vs.toArray}->IntsAre vs ns->ns.length<=n->s₁.gens= #[]->
   codeAny (model l.prog w) callerA (.call (.ref fa) ⟨[.ref a],[]⟩) (λr s'=>r=.ok (.ret (.bool true))/\OldK s₁.heap s'.heap/\s'.os=s₁.os/\AllBare s'.gens) s₁):
  WalkO q loose XP YP l.row.toRowW d [] (λf vs=>PySem.call f vs):=by
 intro w s₀ s₁ mg mb G Y fa o pm cd doc dV kV ho hd hcd hD hmg hg args vals as hpre hlay hrd hwl hlo;obtain rfl:dV=.none:=Dflts.none hD hdf;obtain rfl:kV=.none:=Dflts.noKw hD;obtain ⟨a,vs,ns,rfl,rfl,hobj,hints,hlen⟩:=ZIz hn hpre hwl;refine enter_call (codeAny_mono (call w s₀ s₁ mg mb fa o pm cd doc a vs ns G Y ho (fd_plain hd) hcd hmg hobj hints hlen hg) λr s' hq=> ?_);obtain ⟨rfl,h2,h3,h4⟩:=hq
 exact ⟨.inl ⟨.bool true,.bool true,[],rfl,λ_=>rfl,.bool true,ZMM l _,λ_=>⟨List.Pairwise.nil,λ_ hm=>(nomatch hm)⟩⟩,h2,h3,h4⟩
section
variable {prog:Program} {w:World} {A:Around} {E:Value->Shared->Prop} {s:Shared} {K:Frag}
noncomputable def Ul (h:Heap):Heap:={h with objs:= #[]}
theorem Z4 (h:Heap) (b:Addr):(Ul h).get? b=none:=by
 cases e:(Ul h).get? b with
 | none=>rfl
 | some o=>exact absurd (Heap.lt_size e) (Nat.not_lt_zero _)
noncomputable def ledger (h:Heap) (L d:Addr):List (Addr×Obj):=(List.range h.objs.size).filterMap λa=>if a=L∨a=d then none else (h.get? a).map λo=>(a,o)
theorem Rv {L d a:Addr} {o:Obj}:(a,o)∈ledger h L d↔a≠L/\a≠d/\h.get? a=some o:=by
 unfold ledger;rw [List.mem_filterMap];constructor
 ·rintro ⟨b,_,e⟩;split at e
  ·cases e
  ·rename_i hb;obtain ⟨o',ho,e'⟩:=Option.map_eq_some_iff.mp e;cases e';exact ⟨λq=>hb (.inl q),λq=>hb (.inr q),ho⟩
 ·rintro ⟨n1,n2,ho⟩;refine ⟨a,List.mem_range.mpr (Heap.lt_size ho),?_⟩
  rw [if_neg (show¬(a=L∨a=d) from λq=>q.elim n1 n2),ho] <;> rfl
theorem ZKb {L:Addr} {m:Str->Option Value} (n:h.Ns L m):Fr (Ul h) L h m:=
 ⟨n,λb o e=>(by rw [Z4] at e;cases e),Nat.zero_le _⟩
end
end Att
namespace L2
open PySem PySem.Spec PyProof.Rows
variable {k:Nat} {fd:FuncData} {x:Str}
theorem Ru:∀{vs:List Value} {ns:List Int},IntsAre vs ns->Vals (ns.map V.int) vs
 | _,_,.nil=>.nil
 | _,_,.cons n t h=>.cons ⟨t,rfl⟩ (Ru h)
noncomputable def Only (H:Hp):Prop:=∀b,H b=none∨∃o xs,H b=some (.frz o (.lst xs))
theorem ZJJ {P:Program} {w:World} {K:PySem.W.Frag} {mg mb:Str->Option Value} {CX:CXT} {fa a:Addr} {sp:Sp} {s₁:Shared} {vs:List Value} {ns:List Int}
  (KX:K.In s₁.heap) (hns:s₁.heap.Ns mainGlobals mg) (hb:s₁.heap.Ns builtinsNs mb) (hbb:∀x:Str,x≠"__name__"->mb x=bootBuiltins x) (hlim:s₁.heap.NoLimit) (hg:s₁.gens= #[])
  (ha:s₁.heap.get? a=some {cls:=.type "list",data:=.seq vs.toArray}) (hi:IntsAre vs ns) (hl:ns.length<=sizeLine) (hr:Room k callerA)
  (F:∀base:Heap,K.In base->base.Ns mainGlobals mg->FnOk P w K mg base CX k fa fd [x] sp) (hbind:∀(s:Shared) (u:Value),BindsTo s fd ⟨[u],[]⟩ [(x,u)])
  (hsp:∀H:Hp,Only H->SqL K H a (ns.map V.int)->sp [.ref a] H (λv _=>v=.bl true) λ_ _ _=>False)
  (hCX:∀H e s',CX [] H s₁ (λ_ _ _=>False) e s'->False):
  codeAny (model P w) callerA (.call (.ref fa) ⟨[.ref a],[]⟩) (λr s'=>r=.ok (.ret (.bool true))/\OldK s₁.heap s'.heap/\s'.os=s₁.os/\AllBare s'.gens) s₁:=by
 have rv:=Ru hi;have lenV:=hi.length;have core:∀H:Hp,Only H->SqL K H a (ns.map V.int)->HOk P w H s₁.heap->(∀b,H b≠none->b=a)->(H a≠none->K.lookup a=none)->
   codeAny (model P w) callerA (.call (.ref fa) ⟨[.ref a],[]⟩) (λr s'=>r=.ok (.ret (.bool true))/\OldK s₁.heap s'.heap/\s'.os=s₁.os/\AllBare s'.gens) s₁:=by
  intro H hO hS hok hA hK;have base_of:∀{b:Addr} {o:Obj},s₁.heap.get? b=some o->H b=none->(Ln s₁.heap H).get? b=some o:=λe n=>ZLG e n
  have noA:∀{b:Addr} {o:Obj} {es:Array DictEntry} {ep:Nat},s₁.heap.get? b=some o->o.data=.dict es ep->H b=none:=λ{b o es ep} e d=>by
   cases q:H b with
   | none=>rfl
   | some u=>
    have e':b=a:=hA b (by rw [q];simp);subst e';rw [ha] at e;cases e;have d':Data.seq vs.toArray _=Data.dict es ep:=d;cases d'
  have nsK:∀{b:Addr} {m:Str->Option Value},s₁.heap.Ns b m->(Ln s₁.heap H).Ns b m:=λ{b m} ⟨o,es,ep,e,d,r⟩=>⟨o,es,ep,base_of e (noA e d),d,r⟩
  have hKb:K.In (Ln s₁.heap H):=λb o e=>base_of (KX b o e) (by
   cases q:H b with
   | none=>rfl
   | some u=>
    have e':b=a:=hA b (by rw [q];simp);subst e';rw [hK (by rw [q];simp)] at e;cases e)
  have hM:Mod K mg (Ln s₁.heap H):=⟨hKb,nsK hns,⟨mb,nsK hb,hbb⟩,let ⟨mc,h1,h2⟩:=hlim;⟨mc,nsK h1,h2⟩⟩
  have e0:Env0 P w K mg (Ln s₁.heap H) callerA [] s₁ H:=⟨rfl,hM,λb o e=>ZLs e,Nat.le_of_eq (ZH5 _ _),trivial,λb hb=>absurd (show b∈([]:List Addr) from hb) (by simp),hok,.of_eq hg⟩
  refine codeAny_mono ((F _ hKb (nsK hns)).run callerA [] s₁ H ⟨[.ref a],[]⟩ [.ref a] [.ref a] _ _ hr e0 (hbind s₁ (.ref a)) (.cons rfl .nil) (hsp H hO hS)) λr s' h=> ?_
  cases r with
  | error e=>exact (hCX H e s' h).elim
  | ok fl=>
   cases fl with
   | next=>exact False.elim h
   | brk=>exact False.elim h
   | cont=>exact False.elim h
   | ret u=>
    obtain ⟨v,H',os,bare,un,hok',r',q⟩:=h;have q':v=.bl true:=q;subst q';obtain rfl:u=Value.bool true:=r';refine ⟨rfl,OldK.of_keep λb o e=> ?_,os,bare⟩;cases q:H b with
    | none=>exact un.keep b o e q (by intro z;exact absurd (show b∈([]:List Addr) from z) (by simp)) (by simp)
    | some u=>
     rcases hO b with z | ⟨ob,xs,z⟩
     ·rw [q] at z;cases z
     ·have z2:=un.frzs b ob _ z;obtain ⟨e1,_⟩:=hok b _ z;obtain ⟨e2,_⟩:=hok' b _ z2;rw [e] at e1;cases e1;exact e2
 cases hk:K.lookup a with
 | some o=>
  have e:=KX a o hk;rw [ha] at e;cases e;refine core (λ_=>none) (λ_=>.inl rfl) (.inr ⟨_,vs.toArray,_,hk,rfl,rfl,rfl,by rw [List.size_toArray,lenV];exact hl,by simpa using rv⟩) (λb u z=>by have z':(none:Option HO)=some u:=z;cases z') (λb z=>absurd rfl z) λz=>absurd rfl z
 | none=>
  refine core (λb=>if b=a then some (.frz {cls:=.type "list",data:=.seq vs.toArray} (.lst (ns.map V.int))) else none) (λb=> ?_) (.inl (.inr ⟨{cls:=.type "list",data:=.seq vs.toArray},if_pos rfl⟩)) (λb u z=> ?_) (λb z=> ?_) λ_=>hk
  ·by_cases hb:b=a
   ·exact .inr ⟨_,_,if_pos hb⟩
   ·exact .inl (if_neg hb)
  ·by_cases hb:b=a
   ·have z':=(if_pos hb).symm.trans z;cases z';subst hb;exact ⟨ha,by rw [List.length_map];exact hl,vs,_,rv,ha⟩
   ·have z':=(if_neg hb).symm.trans z;cases z'
  ·by_cases hb:b=a
   ·exact hb
   ·exact absurd (if_neg hb) z
theorem ZLl {l:PySem.W.OpenLaw} {n:Nat} {q:Program} {loose:List Str} {XP:(Str->Option Value)->Heap->Prop} {YP:World->Heap->Prop} {d:DefRec} {K:World->PySem.W.Frag} {CX:World->CXT} {sp:World->Sp} 
  (hn:l.most=some n) (hn2:n<=sizeLine) (hdf:d.params.defaults= []) (hr:Room k callerA)
  (hY:∀(w:World) (h:Heap),YP w h->(K w).In h)
  (F:∀(w:World) (mg:Str->Option Value) (fa:Addr) (h:Heap),(K w).In h->h.Ns mainGlobals mg->mg d.name=some (.ref fa)->
   ∃fd:FuncData,(∀(s:Shared) (u:Value),BindsTo s fd ⟨[u],[]⟩ [(x,u)])/\
    ∀base:Heap,(K w).In base->base.Ns mainGlobals mg->FnOk l.prog w (K w) mg base (CX w) k fa fd [x] (sp w))
  (hsp:∀(w:World) (H:Hp) (a:Addr) (ns:List Int),ns.length<=n->Only H->SqL (K w) H a (ns.map V.int)->sp w [.ref a] H (λv _=>v=.bl true) λ_ _ _=>False)
  (hCX:∀(w:World) (H:Hp) (s:Shared) (e:Value) (s':Shared),CX w [] H s (λ_ _ _=>False) e s'->False):
  PySem.W.WalkO q loose XP YP l.row.toRowW d [] (λf vs=>PySem.call f vs):=by
 refine Att.ZM9 hn hdf λw s₀ s₁ mg mb fa o pm cd doc a vs ns G Y ho hd hcd hmg hobj hints hlen hg=> ?_
 have KX:=hY w _ Y;obtain ⟨fd,hb,hF⟩:=F w mg fa _ KX G.T.g hmg;exact ZJJ KX G.T.g G.T.b G.T.builtins G.T.nolimit hg hobj hints (Nat.le_trans hlen hn2) hr hF hb (λH hO hS=>hsp w H a ns hlen hO hS) λH e s'=>hCX w H s₁ e s'
noncomputable def Lg (s:Stmt):Arguments:=match s with
 | .FunctionDef _ a _ _ _ _ _ _ _ _=>a
 | _=>{posonlyargs:= [],args:= [],vararg:=none,kwonlyargs:= [],kw_defaults:= [],kwarg:=none,defaults:= []}
noncomputable def J8 (s:Stmt):List Stmt:=match s with
 | .FunctionDef _ _ b _ _ _ _ _ _ _=>b
 | _=> []
noncomputable def Av (s:Stmt):Scope:=match s with
 | .FunctionDef _ _ _ _ _ _ sc _ _ _=>sc
 | _=>{kind:=.function,names:= [],isGenerator:=false,isCoroutine:=false}
noncomputable abbrev CX0:CXT:=λ_ _ _ _ _ _=>False
noncomputable abbrev E0:XK:=λ_ _ _=>False
theorem pass0 {X:Cx}:Passes CX0 X E0:=λ_ _ _ _ _ _ _ h=>h.elim
structure Fun (K:PySem.W.Frag) (x qual:Str) (st:Stmt) (f:Addr) (fd:FuncData):Prop where
 ex:∃(oc:Value) (od:Option Addr) (kV doc pm:Value) (an:Option Addr) (cdv ct:Value) (osl:Array (Option Value)),
  fd=PySem.W.fnOf x qual (Lg st) (J8 st) (Av st) .none kV doc pm an cdv ct/\K.lookup f=some ⟨oc,od,.func fd,osl⟩/\PySem.W.codeIn K cdv qual=true
 kp:PySem.W.keepIn K (.ref f)=true
section
variable {P:Program} {w:World} {K:PySem.W.Frag} {mg:Str->Option Value} {base:Heap}
theorem Fun.ok {qual:Str} {st:Stmt} {f:Addr} {N ps:List Str} {sp:Sp} (F:Fun K x qual st f fd) (S:FnScope N ps (Av st)) (len:∀vs H Q E,sp vs H Q E->vs.length=ps.length)
  (hbody:∀(cdv:Value) (A:Around) (outer:List Env) (s:Shared) (H:Hp) (vs:List V) (Q:VK) (E:XK),Room k (A.deeper (envOfC qual (Av st) s.heap.objs.size f cdv))->sp vs H Q E->
   ∃t,PSs (Mw CX0 P w K mg base N qual (Av st) f cdv A outer s H E).nox (J8 st) t/\t {nx:=λ_ H'=>Q .non H',rt:=Q} (start N vs) H):FnOk P w K mg base CX0 (k + 1) f fd ps sp:=by
 obtain ⟨oc,od,kV,doc,pm,an,cdv,ct,osl,rfl,lk,hcd⟩:=F.ex;refine ZLb lk hcd S len λA outer s H vs Q E hr hsp=> ?_
 obtain ⟨t,h,q⟩:=hbody cdv A outer s H vs Q E hr hsp;exact ⟨t,h.nox,q⟩
theorem Fun.binds {qual:Str} {st:Stmt} {f:Addr} {ps:List Str} (F:Fun K x qual st f fd)
  (h:∀(kV doc pm:Value) (an:Option Addr) (cdv ct:Value) (us:List Value),us.length=ps.length->bindArgs (PySem.W.fnOf x qual (Lg st) (J8 st) (Av st) .none kV doc pm an cdv ct) ⟨us,[]⟩=pure (ps.zip us)):Binds K fd ps []:=by
 obtain ⟨oc,od,kV,doc,pm,an,cdv,ct,osl,rfl,lk,hcd⟩:=F.ex;exact .all (h kV doc pm an cdv ct)
end
section
variable {X:Cx}
end
section
variable {κ:Type} [DecidableEq κ]
end
section
variable {P:Program} {w:World} {H:Hp} {h:Heap} {a:Addr}
end
section
variable {X:Cx} {pins:List (Addr×Obj)} {σ:St} {H:Hp} {s:Shared} {a:Addr} {y v:V} {u r:Value} {o:Option V} {A:Around} {E:Value->Shared->Prop}
end
section
variable {X:Cx} {pins:List (Addr×Obj)} {σ:St} {H:Hp} {s:Shared} {a:Addr} {kvs:List (Key×V)} {k:Key} {u:Value} {A:Around} {E:Value->Shared->Prop}
end
section
variable {X:Cx} {o i e value:Expr} {pos pos' tpos:Pos} {td ty tv:TE}
end
section
variable {X:Cx} {pos:Pos}
end
section
variable {X:Cx} {pins:List (Addr×Obj)} {σ:St} {H:Hp} {s:Shared} {a:Addr} {y d:V} {u r:Value} {o:Option V} {A:Around} {E:Value->Shared->Prop}
end
section
variable {X:Cx} {o e f:Expr} {apos cpos:Pos} {td ty tx:TE}
end
section
variable {X:Cx} {pins:List (Addr×Obj)} {σ:St} {H:Hp} {s:Shared} {a:Addr} {kvs:List (Key×V)} {A:Around} {E:Value->Shared->Prop}
end
section
variable {X:Cx} {pins:List (Addr×Obj)} {σ:St} {H:Hp} {s:Shared} {a:Addr} {y:V} {u:Value} {A:Around} {E:Value->Shared->Prop}
end
section
variable {X:Cx}
end
end L2
namespace L2
section
variable {κ:Type} [DecidableEq κ]
end
end L2
namespace DL
open PySem PySem.Spec L2
open PyProof.Rows hiding St
variable {α β:Type} {K:PySem.W.Frag} {H:Hp} {p:Addr} {v:V} {vs:List V} {σ:St} {E:XK} {Q:VK} {W:Ends} {e tg:Expr} {ho:HO} {i j k nt:Nat} {x:Str} {A:Around} {s:Shared} {P:Program} {w:World} {scope:Scope} {env:Env} {X:Cx}
inductive D where
 | non | bl (b:Bool) | int (i:Int) | str (x:Str) | ty (n:String)
 | tup (xs:List D)
 | fl (xs:List D)
 | ref (i:Nat)
variable {d:D} {ds xs:List D}
inductive DO where
 | lst (xs:List D)
 | dct (kvs:List (Key×D))
 | ins (c:Str) (fs:List (Str×D))
 | tab (c m:Str)
 | gone
variable {o:DO}
noncomputable abbrev DH:=List DO
variable {G G' L:DH}
noncomputable abbrev DSt:=List (Option D)
variable {S:DSt}
structure Xn where
 cls:Str
 fs:List (Str×D)
inductive R (α:Type) where
 | ok (a:α) (G:DH)
 | err (x:Xn) (G:DH)
 | bad
variable {r:R D} {f:D->D->DH->R D}
noncomputable def R.bind {α β:Type} (r:R α) (f:α->DH->R β):R β:=match r with
 | .ok a G=>f a G
 | .err x G=>.err x G
 | .bad=>.bad
@[simp] theorem R.Kv (a:α) (G:DH) (f:α->DH->R β):(R.ok a G).bind f=f a G:=id rfl
@[simp] theorem R.ZQu (f:α->DH->R β):(R.bad:R α).bind f=.bad:=id rfl
inductive SR where
 | nx (S:DSt) (G:DH)
 | rt (d:D) (G:DH)
 | bk (S:DSt) (G:DH)
 | ct (S:DSt) (G:DH)
 | err (x:Xn) (G:DH)
 | bad
noncomputable abbrev DE:=DSt->DH->R D
variable {t te:DE}
noncomputable abbrev DB:=DSt->DH->R Bool
variable {c:DB}
noncomputable abbrev DA:=DSt->DH->R (List D)
noncomputable abbrev DS:=DSt->DH->SR
variable {u:DS}
noncomputable def FzL (K:PySem.W.Frag) (H:Hp) (a:Addr) (xs:List V):Prop:=
 (∃o,H a=some (.frz o (.lst xs)))∨
  ∃(o:Obj) (its:Array Value) (n:Nat),K.lookup a=some o/\o.cls=.type "list"/\o.dict=none/\o.data=.seq its n/\its.size<=sizeLine/\Vals xs its.toList
theorem FzL.sq {a:Addr} {xs:List V} (h:FzL K H a xs):SqL K H a xs:=by
 rcases h with ⟨o,h⟩ | h
 ·exact .inl (.inr ⟨o,h⟩)
 ·exact .inr h
structure Wd where
 K:PySem.W.Frag
 n:Nat
 m:Nat->Addr
 H:Hp
variable {a b:Wd}
mutual
noncomputable def Rep (a:Wd):D->V->Prop
 | .non,v=>v=.non
 | .bl b,v=>v=.bl b
 | .int i,v=>v=.int i
 | .str x,v=>v=.str x
 | .ty n,v=>v=.ty n
 | .tup ds,v=>∃p vs,v=.ref p/\SqT a.K a.H p vs/\Reps a ds vs
 | .fl ds,v=>∃p vs,v=.ref p/\FzL a.K a.H p vs/\Reps a ds vs
 | .ref i,v=>i < a.n/\v=.ref (a.m i)
noncomputable def Reps (a:Wd):List D->List V->Prop
 | [],vs=>vs= []
 | d::ds,vs=>∃v r,vs=v::r/\Rep a d v/\Reps a ds r
end
noncomputable def lamQ:Str:="Sending.send_by.<locals>.<lambda>"
noncomputable def TabOk (H:Hp) (P:Addr):Prop:=
 ∃ps:Array Value,H P=some (.tbl ps)/\TriplesOk ps.toList/\∀pos cv,codeAmong pos ps.toList=some cv->∃(c:Addr) (oc:Obj) (vs:Array Value) (t:Tok),cv=.ref c/\H c=some (.frz oc (.own 0))/\oc.data=.fields vs/\vs[1]? =some (.str lamQ t)
theorem TabOk.mono {H':Hp} {P:Addr} (h:TabOk H P) (ht:∀p ps,H p=some (.tbl ps)->H' p=some (.tbl ps)) (hf:∀p o u,H p=some (.frz o u)->H' p=some (.frz o u)):TabOk H' P:=by obtain ⟨ps,e,t,k⟩:=h;refine ⟨ps,ht _ _ e,t,λpos cv hc=> ?_⟩;obtain ⟨c,oc,vs,tk,e1,e2,e3,e4⟩:=k pos cv hc;exact ⟨c,oc,vs,tk,e1,hf _ _ _ e2,e3,e4⟩
noncomputable def TabAt (K:PySem.W.Frag) (C m:Str) (c P:Addr):Prop:=
 ∃(Ca f:Addr) (oc:Value) (od:Option Addr) (fd:FuncData) (sl:Array (Option Value)),PySem.W.nsIn K mainGlobals C=some (some (.ref Ca))/\PySem.W.findIn K (.ref Ca) m=some (some (.ref f))/\K.lookup f=some ⟨oc,od,.func fd,sl⟩/\fd.code=.ref c/\PySem.W.codeHdIn K c P=true
structure Ext (a b:Wd):Prop where
 k:b.K=a.K
 n:a.n<=b.n
 m:∀i,i < a.n->b.m i=a.m i
 tup:∀p xs,a.H p=some (.tup xs)->b.H p=some (.tup xs)
 frz:∀p o u,a.H p=some (.frz o u)->b.H p=some (.frz o u)
 tab:∀p,TabOk a.H p->TabOk b.H p
theorem Ext.refl (a:Wd):Ext a a:=⟨rfl,Nat.le_refl _,λ_ _=>rfl,λ_ _ h=>h,λ_ _ _ h=>h,λ_ h=>h⟩
theorem Ext.trans {c:Wd} (x:Ext a b) (y:Ext b c):Ext a c:=
 ⟨y.k.trans x.k,Nat.le_trans x.n y.n,λi h=>(y.m i (Nat.lt_of_lt_of_le h x.n)).trans (x.m i h),λp xs h=>y.tup p xs (x.tup p xs h),λp o u h=>y.frz p o u (x.frz p o u h),λp h=>y.tab p (x.tab p h)⟩
theorem Ext.sqT (x:Ext a b) {xs:List V} (h:SqT a.K a.H p xs):SqT b.K b.H p xs:=by
 rcases h with (h | ⟨o,h⟩) | h
 ·exact .inl (.inl (x.tup _ _ h))
 ·exact .inl (.inr ⟨o,x.frz _ _ _ h⟩)
 ·exact .inr (by rw [x.k];exact h)
theorem Ext.fzL (x:Ext a b) {xs:List V} (h:FzL a.K a.H p xs):FzL b.K b.H p xs:=by
 rcases h with ⟨o,h⟩ | h
 ·exact .inl ⟨o,x.frz _ _ _ h⟩
 ·exact .inr (by rw [x.k];exact h)
mutual
theorem Rep.mono (x:Ext a b):∀{d:D} {v:V},Rep a d v->Rep b d v
 | .non,_,h=>h
 | .bl _,_,h=>h
 | .int _,_,h=>h
 | .str _,_,h=>h
 | .ty _,_,h=>h
 | .tup ds,v,h=>by obtain ⟨p,vs,e,q,r⟩:=h;exact ⟨p,vs,e,x.sqT q,Reps.mono x r⟩
 | .fl ds,v,h=>by obtain ⟨p,vs,e,q,r⟩:=h;exact ⟨p,vs,e,x.fzL q,Reps.mono x r⟩
 | .ref i,v,h=>by obtain ⟨l,e⟩:=h;exact ⟨Nat.lt_of_lt_of_le l x.n,by rw [x.m i l];exact e⟩
theorem Reps.mono (x:Ext a b):∀{ds:List D} {vs:List V},Reps a ds vs->Reps b ds vs
 | [],_,h=>h
 | d::ds,vs,h=>by obtain ⟨v,r,e,h1,h2⟩:=h;exact ⟨v,r,e,Rep.mono x h1,Reps.mono x h2⟩
end
theorem Reps.length:∀{ds:List D} {vs:List V},Reps a ds vs->ds.length=vs.length
 | [],vs,h=>by cases (show vs= [] from h);rfl
 | d::ds,vs,h=>by obtain ⟨v,r,e,h1,h2⟩:=h;subst e;show ds.length + 1=r.length + 1;rw [Reps.length h2]
theorem Reps.get:∀{ds:List D} {vs:List V} {i:Nat} {d:D},Reps a ds vs->ds[i]? =some d->∃v,vs[i]? =some v/\Rep a d v
 | [],vs,_,_,h,e=>by simp at e
 | d::ds,vs,0,d',h,e=>by obtain ⟨v,r,e1,h1,h2⟩:=h;subst e1;simp at e;subst e;exact ⟨v,rfl,h1⟩
 | d::ds,vs,i + 1,d',h,e=>by obtain ⟨v,r,e1,h1,h2⟩:=h;subst e1;obtain ⟨w,e2,h3⟩:=Reps.get (i:=i) (d:=d') h2 (by simpa using e);exact ⟨w,by simpa using e2,h3⟩
theorem Reps.get':∀{ds:List D} {vs:List V} {i:Nat} {v:V},Reps a ds vs->vs[i]? =some v->∃d,ds[i]? =some d/\Rep a d v
 | [],vs,_,_,h,e=>by cases (show vs= [] from h);simp at e
 | d::ds,vs,0,v',h,e=>by obtain ⟨v,r,e1,h1,h2⟩:=h;subst e1;simp at e;subst e;exact ⟨d,rfl,h1⟩
 | d::ds,vs,i + 1,v',h,e=>by obtain ⟨v,r,e1,h1,h2⟩:=h;subst e1;obtain ⟨w,e2,h3⟩:=Reps.get' (i:=i) (v:=v') h2 (by simpa using e);exact ⟨w,by simpa using e2,h3⟩
theorem Reps.append:∀{ds es:List D} {vs us:List V},Reps a ds vs->Reps a es us->Reps a (ds++es) (vs++us)
 | [],_,vs,_,h,h'=>by cases (show vs= [] from h);exact h'
 | d::ds,es,vs,us,h,h'=>by obtain ⟨v,r,e1,h1,h2⟩:=h;subst e1;exact ⟨v,r++us,rfl,h1,Reps.append h2 h'⟩
theorem Reps.cons (h:Rep a d v) (r:Reps a ds vs):Reps a (d::ds) (v::vs):=⟨v,vs,rfl,h,r⟩
theorem Reps.nil:Reps a [] []:=rfl
theorem Reps.set (h:Rep a d v):∀{ds:List D} {vs:List V} (i:Nat),Reps a ds vs->Reps a (ds.set i d) (vs.set i v)
 | [],vs,_,r=>by cases (show vs= [] from r);exact rfl
 | d'::ds,vs,0,r=>by obtain ⟨v',r',e1,h1,h2⟩:=r;subst e1;exact ⟨v,r',rfl,h,h2⟩
 | d'::ds,vs,i + 1,r=>by obtain ⟨v',r',e1,h1,h2⟩:=r;subst e1;exact ⟨v',r'.set i v,rfl,h1,Reps.set h i h2⟩
theorem Reps.take:∀{ds:List D} {vs:List V} (i:Nat),Reps a ds vs->Reps a (ds.take i) (vs.take i)
 | _,_,0,_=>rfl
 | [],vs,_ + 1,r=>by cases (show vs= [] from r);exact rfl
 | d'::ds,vs,i + 1,r=>by obtain ⟨v',r',e1,h1,h2⟩:=r;subst e1;exact ⟨v',r'.take i,rfl,h1,Reps.take i h2⟩
theorem Reps.drop:∀{ds:List D} {vs:List V} (i:Nat),Reps a ds vs->Reps a (ds.drop i) (vs.drop i)
 | _,_,0,r=>r
 | [],vs,_ + 1,r=>by cases (show vs= [] from r);exact rfl
 | d'::ds,vs,i + 1,r=>by obtain ⟨v',r',e1,h1,h2⟩:=r;subst e1;exact Reps.drop i h2
theorem Reps.ints:∀(ns:List Int),Reps a (ns.map D.int) (ns.map V.int)
 | []=>rfl
 | n::ns=>⟨.int n,ns.map V.int,rfl,rfl,Reps.ints ns⟩
noncomputable def RepKV (a:Wd) (kvs:List (Key×D)) (us:List (Key×V)):Prop:=kvs.map (·.1)=us.map (·.1)/\Reps a (kvs.map (·.2)) (us.map (·.2))
noncomputable def RepF (a:Wd) (fs:List (Str×D)) (us:List (Str×V)):Prop:=fs.map (·.1)=us.map (·.1)/\Reps a (fs.map (·.2)) (us.map (·.2))
noncomputable def ORep (a:Wd):DO->Option HO->Prop
 | .lst ds,o=>∃vs,o=some (.lst vs)/\Reps a ds vs
 | .dct kvs,o=>∃us,o=some (.dK us)/\RepKV a kvs us
 | .ins c fs,o=>∃C dx us,PySem.W.nsIn a.K mainGlobals c=some (some (.ref C))/\o=some (.ins C dx us)/\RepF a fs us
 | .tab C m,_=>∃c P,TabAt a.K C m c P/\TabOk a.H P
 | .gone,_=>True
structure Sim (a:Wd) (G:DH):Prop where
 len:G.length=a.n
 inj:∀i j,i < a.n->j < a.n->a.m i=a.m j->i=j
 obj:∀(i:Nat) (o:DO),G[i]? =some o->ORep a o (a.H (a.m i))
 tr:∀i,i < a.n->a.H (a.m i)≠none
structure RepS (a:Wd) (S:DSt) (σ:St):Prop where
 len:S.length=σ.length
 get:∀(i:Nat) (d:D),S[i]? =some (some d)->∃v,σ[i]? =some (some v)/\Rep a d v
theorem RepS.mono (x:Ext a b) (r:RepS a S σ):RepS b S σ:=⟨r.len,λi d h=>let ⟨v,e,q⟩:=r.get i d h;⟨v,e,q.mono x⟩⟩
theorem RepS.set (r:RepS a S σ) (i:Nat) (h:Rep a d v):RepS a (S.set i (some d)) (σ.set i (some v)):=by
 refine ⟨by simpa using r.len,λj e he=> ?_⟩;rw [List.getElem?_set] at he ⊢;by_cases hij:i=j
 ·subst hij;rw [if_pos rfl] at he ⊢;by_cases hl:i < S.length
  ·rw [if_pos hl] at he;have e1:d=e:=by simpa using he
   subst e1;rw [if_pos (by rw [<-r.len];exact hl)];exact ⟨v,rfl,h⟩
  ·rw [if_neg hl] at he;cases he
 ·rw [if_neg hij] at he ⊢;exact r.get j e he
noncomputable def XOk (E:XK) (a:Wd) (x:Xn) (G:DH):Prop:=False
noncomputable def out (E:XK) (a:Wd) (r:R D) (Q:VK):Prop:=match r with
 | .ok d G=>∀(b:Wd) (v:V),Ext a b->Sim b G->Rep b d v->Q v b.H
 | .err x G=>XOk E a x G
 | .bad=>False
noncomputable def Hc (E:XK) (a:Wd) (r:R Bool) (Q:Bool->Hp->Prop):Prop:=match r with
 | .ok k G=>∀(b:Wd),Ext a b->Sim b G->Q k b.H
 | .err x G=>XOk E a x G
 | .bad=>False
noncomputable def Ha (E:XK) (a:Wd) (r:R (List D)) (Q:List V->Hp->Prop):Prop:=match r with
 | .ok ds G=>∀(b:Wd) (vs:List V),Ext a b->Sim b G->Reps b ds vs->Q vs b.H
 | .err x G=>XOk E a x G
 | .bad=>False
noncomputable def Cw (E:XK) (a:Wd) (r:SR) (W:Ends):Prop:=match r with
 | .nx S G=>∀(b:Wd) (σ:St),Ext a b->Sim b G->RepS b S σ->W.nx σ b.H
 | .bk S G=>∀(b:Wd) (σ:St),Ext a b->Sim b G->RepS b S σ->W.bk σ b.H
 | .ct S G=>∀(b:Wd) (σ:St),Ext a b->Sim b G->RepS b S σ->W.ct σ b.H
 | .rt d G=>∀(b:Wd) (v:V),Ext a b->Sim b G->Rep b d v->W.rt v b.H
 | .err x G=>XOk E a x G
 | .bad=>False
theorem XOk.mono (x:Ext a b) {e:Xn} (h:XOk E a e G):XOk E b e G:=h
theorem out.mono (x:Ext a b) (h:out E a r Q):out E b r Q:=by
 cases r with
 | ok d G=>exact λc v y s q=>h c v (x.trans y) s q
 | err e G=>exact XOk.mono (E:=E) (e:=e) (G:=G) x h
 | bad=>exact h
theorem Hc.mono (x:Ext a b) {r:R Bool} {Q:Bool->Hp->Prop} (h:Hc E a r Q):Hc E b r Q:=by
 cases r with
 | ok d G=>exact λc y s=>h c (x.trans y) s
 | err e G=>exact XOk.mono (E:=E) (e:=e) (G:=G) x h
 | bad=>exact h
theorem Ha.mono (x:Ext a b) {r:R (List D)} {Q:List V->Hp->Prop} (h:Ha E a r Q):Ha E b r Q:=by
 cases r with
 | ok d G=>exact λc vs y s q=>h c vs (x.trans y) s q
 | err e G=>exact XOk.mono (E:=E) (e:=e) (G:=G) x h
 | bad=>exact h
theorem Cw.mono (x:Ext a b) {r:SR} (h:Cw E a r W):Cw E b r W:=by
 cases r with
 | nx d G=>exact λc vs y s q=>h c vs (x.trans y) s q
 | bk d G=>exact λc vs y s q=>h c vs (x.trans y) s q
 | ct d G=>exact λc vs y s q=>h c vs (x.trans y) s q
 | rt d G=>exact λc vs y s q=>h c vs (x.trans y) s q
 | err e G=>exact XOk.mono (E:=E) (e:=e) (G:=G) x h
 | bad=>exact h
noncomputable def lE (K:PySem.W.Frag) (E:XK) (t:DE):TE:=λσ H Q=>∃(a:Wd) (S:DSt) (G:DH),a.K=K/\a.H=H/\Sim a G/\RepS a S σ/\out E a (t S G) Q
noncomputable def lB (K:PySem.W.Frag) (E:XK) (t:DB):TT:=λσ H Q=>∃(a:Wd) (S:DSt) (G:DH),a.K=K/\a.H=H/\Sim a G/\RepS a S σ/\Hc E a (t S G) Q
noncomputable def lA (K:PySem.W.Frag) (E:XK) (t:DA):TA:=λσ H Q=>∃(a:Wd) (S:DSt) (G:DH),a.K=K/\a.H=H/\Sim a G/\RepS a S σ/\Ha E a (t S G) Q
noncomputable def lS (K:PySem.W.Frag) (E:XK) (t:DS):TS:=λW σ H=>∃(a:Wd) (S:DSt) (G:DH),a.K=K/\a.H=H/\Sim a G/\RepS a S σ/\Cw E a (t S G) W
noncomputable def lR2 (K:PySem.W.Frag) (E:XK) (f:D->D->DH->R D):R2:=λx y H Q=>∃(a:Wd) (G:DH) (d e:D),a.K=K/\a.H=H/\Sim a G/\Rep a d x/\Rep a e y/\out E a (f d e G) Q
noncomputable def lR1 (K:PySem.W.Frag) (E:XK) (f:D->DH->R D):V->Hp->VK->Prop:=λx H Q=>∃(a:Wd) (G:DH) (d:D),a.K=K/\a.H=H/\Sim a G/\Rep a d x/\out E a (f d G) Q
noncomputable def lRn (K:PySem.W.Frag) (E:XK) (f:List D->DH->R D):List V->Hp->VK->Prop:=λxs H Q=>∃(a:Wd) (G:DH) (ds:List D),a.K=K/\a.H=H/\Sim a G/\Reps a ds xs/\out E a (f ds G) Q
noncomputable def lF (K:PySem.W.Frag) (f:List D->DH->R D):Sp:=λxs H Q E=>∃(a:Wd) (G:DH) (ds:List D),a.K=K/\a.H=H/\Sim a G/\Reps a ds xs/\out E a (f ds G) Q
section
variable {X:Cx} {E:XK}
noncomputable def QE (X:Cx) (E:XK) (e:Expr) (t:DE):Prop:=PE X e (lE X.K E t)
noncomputable def QT (X:Cx) (E:XK) (e:Expr) (t:DB):Prop:=PT X e (lB X.K E t)
noncomputable def QA (X:Cx) (E:XK) (es:List Expr) (t:DA):Prop:=PA X es (lA X.K E t)
noncomputable def QS (X:Cx) (E:XK) (st:Stmt) (t:DS):Prop:=PS X st (lS X.K E t)
noncomputable def QSs (X:Cx) (E:XK) (st:List Stmt) (t:DS):Prop:=PSs X st (lS X.K E t)
theorem _root_.L2.PE.mono {t t':TE} (h:PE X e t) (w:∀σ H Q,t' σ H Q->t σ H Q):PE X e t':=λpins s σ H Q I q=>h pins s σ H Q I (w σ H Q q)
theorem _root_.L2.PT.mono {t t':TT} (h:PT X e t) (w:∀σ H Q,t' σ H Q->t σ H Q):PT X e t':=λpins s σ H Q I q=>h pins s σ H Q I (w σ H Q q)
theorem _root_.L2.PA.mono {e:List Expr} {t t':TA} (h:PA X e t) (w:∀σ H Q,t' σ H Q->t σ H Q):PA X e t':=λpos pins s σ H Q I q=>h pos pins s σ H Q I (w σ H Q q)
theorem _root_.L2.PS.mono {e:Stmt} {t t':TS} (h:PS X e t) (w:∀W σ H,t' W σ H->t W σ H):PS X e t':=λpins s σ H W I q=>h pins s σ H W I (w W σ H q)
theorem _root_.L2.PSs.mono {e:List Stmt} {t t':TS} (h:PSs X e t) (w:∀W σ H,t' W σ H->t W σ H):PSs X e t':=λpins s σ H W I q=>h pins s σ H W I (w W σ H q)
theorem _root_.L2.OpR.mono {f:Value->Value->Sem Value} {r r':R2} (h:OpR X f r) (w:∀x y H Q,r' x y H Q->r x y H Q):OpR X f r':=λpins s σ H x y v u Q I rx ry q=>h pins s σ H x y v u Q I rx ry (w _ _ _ _ q)
end
theorem Gh {f:D->DH->R D} (h:out E a (r.bind f) Q):
  out E a r (λv H=>∃(b:Wd) (d:D) (G:DH),b.H=H/\Ext a b/\Sim b G/\Rep b d v/\r=.ok d G/\out E b (f d G) Q):=by
 cases r with
 | ok d G=>exact λb v x s q=>⟨b,d,G,rfl,x,s,q,rfl,out.mono x h⟩
 | err e G=>exact h
 | bad=>exact h
theorem Np {r:R (List D)} {f:List D->DH->R D} (h:out E a (r.bind f) Q):
  Ha E a r (λvs H=>∃(b:Wd) (ds:List D) (G:DH),b.H=H/\Ext a b/\Sim b G/\Reps b ds vs/\r=.ok ds G/\out E b (f ds G) Q):=by
 cases r with
 | ok d G=>exact λb v x s q=>⟨b,d,G,rfl,x,s,q,rfl,out.mono x h⟩
 | err e G=>exact h
 | bad=>exact h
theorem ZEh {r:R Bool} {f:Bool->DH->R D} (h:out E a (r.bind f) Q):
  Hc E a r (λk H=>∃(b:Wd) (G:DH),b.H=H/\Ext a b/\Sim b G/\r=.ok k G/\out E b (f k G) Q):=by
 cases r with
 | ok d G=>exact λb x s=>⟨b,G,rfl,x,s,rfl,out.mono x h⟩
 | err e G=>exact h
 | bad=>exact h
theorem ZJD {f:D->DH->R Bool} {Q:Bool->Hp->Prop} (h:Hc E a (r.bind f) Q):
  out E a r (λv H=>∃(b:Wd) (d:D) (G:DH),b.H=H/\Ext a b/\Sim b G/\Rep b d v/\r=.ok d G/\Hc E b (f d G) Q):=by
 cases r with
 | ok d G=>exact λb v x s q=>⟨b,d,G,rfl,x,s,q,rfl,Hc.mono x h⟩
 | err e G=>exact h
 | bad=>exact h
theorem Yh {r:R Bool} {f:Bool->DH->R Bool} {Q:Bool->Hp->Prop} (h:Hc E a (r.bind f) Q):
  Hc E a r (λk H=>∃(b:Wd) (G:DH),b.H=H/\Ext a b/\Sim b G/\r=.ok k G/\Hc E b (f k G) Q):=by
 cases r with
 | ok d G=>exact λb x s=>⟨b,G,rfl,x,s,rfl,Hc.mono x h⟩
 | err e G=>exact h
 | bad=>exact h
theorem ZPH {f:D->DH->R (List D)} {Q:List V->Hp->Prop} (h:Ha E a (r.bind f) Q):
  out E a r (λv H=>∃(b:Wd) (d:D) (G:DH),b.H=H/\Ext a b/\Sim b G/\Rep b d v/\r=.ok d G/\Ha E b (f d G) Q):=by
 cases r with
 | ok d G=>exact λb v x s q=>⟨b,d,G,rfl,x,s,q,rfl,Ha.mono x h⟩
 | err e G=>exact h
 | bad=>exact h
theorem ZK4 {r:R (List D)} {f:List D->DH->R (List D)} {Q:List V->Hp->Prop} (h:Ha E a (r.bind f) Q):
  Ha E a r (λvs H=>∃(b:Wd) (ds:List D) (G:DH),b.H=H/\Ext a b/\Sim b G/\Reps b ds vs/\r=.ok ds G/\Ha E b (f ds G) Q):=by
 cases r with
 | ok d G=>exact λb v x s q=>⟨b,d,G,rfl,x,s,q,rfl,Ha.mono x h⟩
 | err e G=>exact h
 | bad=>exact h
noncomputable def R.toS {α:Type} (r:R α) (f:α->DH->SR):SR:=match r with
 | .ok a G=>f a G
 | .err x G=>.err x G
 | .bad=>.bad
@[simp] theorem R.Di (a:α) (G:DH) (f:α->DH->SR):(R.ok a G).toS f=f a G:=id rfl
@[simp] theorem R.ZQI (f:α->DH->SR):(R.bad:R α).toS f=.bad:=id rfl
theorem Iw {f:D->DH->SR} (h:Cw E a (r.toS f) W):
  out E a r (λv H=>∃(b:Wd) (d:D) (G:DH),b.H=H/\Ext a b/\Sim b G/\Rep b d v/\r=.ok d G/\Cw E b (f d G) W):=by
 cases r with
 | ok d G=>exact λb v x s q=>⟨b,d,G,rfl,x,s,q,rfl,Cw.mono x h⟩
 | err e G=>exact h
 | bad=>exact h
theorem ZFY {r:R Bool} {f:Bool->DH->SR} (h:Cw E a (r.toS f) W):
  Hc E a r (λk H=>∃(b:Wd) (G:DH),b.H=H/\Ext a b/\Sim b G/\r=.ok k G/\Cw E b (f k G) W):=by
 cases r with
 | ok d G=>exact λb x s=>⟨b,G,rfl,x,s,rfl,Cw.mono x h⟩
 | err e G=>exact h
 | bad=>exact h
section
theorem out.imp {Q':VK} (h:out E a r Q) (w:∀v H,Q v H->Q' v H):out E a r Q':=by
 cases r with
 | ok d G=>exact λb v x s q=>w _ _ (h b v x s q)
 | err e G=>exact h
 | bad=>exact h
theorem Ha.imp {r:R (List D)} {Q Q':List V->Hp->Prop} (h:Ha E a r Q) (w:∀v H,Q v H->Q' v H):Ha E a r Q':=by
 cases r with
 | ok d G=>exact λb v x s q=>w _ _ (h b v x s q)
 | err e G=>exact h
 | bad=>exact h
theorem Hc.imp {r:R Bool} {Q Q':Bool->Hp->Prop} (h:Hc E a r Q) (w:∀v H,Q v H->Q' v H):Hc E a r Q':=by
 cases r with
 | ok d G=>exact λb x s=>w _ _ (h b x s)
 | err e G=>exact h
 | bad=>exact h
noncomputable def Wd.push (a:Wd) (p:Addr) (ho:HO):Wd:=⟨a.K,a.n + 1,λk=>if k=a.n then p else a.m k,upd a.H p ho⟩
noncomputable def Wd.put (a:Wd) (p:Addr) (ho:HO):Wd:={a with H:=upd a.H p ho}
theorem Ext.put (h:a.H p=none):Ext a (a.put p ho):=
 ⟨rfl,Nat.le_refl _,λ_ _=>rfl,λq xs e=>by show upd a.H p ho q=_;rw [Bc (Ij e h)];exact e,λq o u e=>by show upd a.H p ho q=_;rw [Bc (Ij e h)];exact e,λ_ t=>t.mono (λq ps e=>by show upd a.H p ho q=_;rw [Bc (Ij e h)];exact e) (λq o u e=>by show upd a.H p ho q=_;rw [Bc (Ij e h)];exact e)⟩
theorem Ext.push (h:a.H p=none):Ext a (a.push p ho):=
 ⟨rfl,Nat.le_succ _,λi hi=>by show (if i=a.n then p else a.m i)=a.m i;rw [if_neg (Nat.ne_of_lt hi)],λq xs e=>by show upd a.H p ho q=_;rw [Bc (Ij e h)];exact e,λq o u e=>by show upd a.H p ho q=_;rw [Bc (Ij e h)];exact e,λ_ t=>t.mono (λq ps e=>by show upd a.H p ho q=_;rw [Bc (Ij e h)];exact e) (λq o u e=>by show upd a.H p ho q=_;rw [Bc (Ij e h)];exact e)⟩
theorem ORep.mono (x:Ext a b) {q:Option HO} (h:ORep a o q):ORep b o q:=by
 cases o with
 | lst ds=>obtain ⟨vs,e,r⟩:=h;exact ⟨vs,e,r.mono x⟩
 | dct kvs=>obtain ⟨us,e,k,r⟩:=h;exact ⟨us,e,k,r.mono x⟩
 | ins c fs=>obtain ⟨C,dx,us,n,e,k,r⟩:=h;exact ⟨C,dx,us,by rw [x.k];exact n,e,k,r.mono x⟩
 | tab C m=>obtain ⟨c,P,e,t⟩:=h;exact ⟨c,P,by rw [x.k];exact e,x.tab _ t⟩
 | gone=>trivial
theorem Sim.lt (s:Sim a G) (h:G[i]? =some o):i < a.n:=by rw [<-s.len];exact (List.getElem?_eq_some_iff.mp h).1
theorem Sim.put (s:Sim a G) (h:a.H p=none):Sim (a.put p ho) G:=by
 refine ⟨s.len,s.inj,λi o e=> ?_,λi hi=> ?_⟩
 ·have z:a.H (a.m i)≠none:=s.tr i (s.lt e);have ne:a.m i≠p:=λq=>z (by rw [q];exact h)
  show ORep _ o (upd a.H p ho (a.m i));rw [Bc ne];exact (s.obj i o e).mono (Ext.put h)
 ·have z:a.H (a.m i)≠none:=s.tr i hi;have ne:a.m i≠p:=λq=>z (by rw [q];exact h)
  show upd a.H p ho (a.m i)≠none;rw [Bc ne];exact z
theorem Sim.push (s:Sim a G) (h:a.H p=none) (r:ORep (a.push p ho) o (some ho)):Sim (a.push p ho) (G++ [o]):=by
 have nep:∀i,i < a.n->a.m i≠p:=λi hi q=>s.tr i hi (by rw [q];exact h)
 have old:∀i,i < a.n->(a.push p ho).m i=a.m i:=λi hi=>by show (if i=a.n then p else a.m i)=_;rw [if_neg (Nat.ne_of_lt hi)]
 have new:(a.push p ho).m a.n=p:=by show (if a.n=a.n then p else a.m a.n)=_;rw [if_pos rfl]
 refine ⟨by simp [s.len,Wd.push],λi j hi hj e=> ?_,λi u e=> ?_,λi hi=> ?_⟩
 ·have hi':i < a.n + 1:=hi;have hj':j < a.n + 1:=hj;by_cases h1:i < a.n
  ·by_cases h2:j < a.n
   ·rw [old i h1,old j h2] at e;exact s.inj i j h1 h2 e
   ·have:j=a.n:=by lia
    subst this;rw [old i h1,new] at e;exact absurd e (nep i h1)
  ·have:i=a.n:=by lia
   subst this;by_cases h2:j < a.n
   ·rw [old j h2,new] at e;exact absurd e.symm (nep j h2)
   ·lia
 ·by_cases h1:i < a.n
  ·rw [List.getElem?_append_left (by rw [s.len];exact h1)] at e;rw [old i h1];show ORep _ u (upd a.H p ho (a.m i));rw [Bc (nep i h1)];exact (s.obj i u e).mono (Ext.push h)
  ·have hl:i < (G++ [o]).length:=(List.getElem?_eq_some_iff.mp e).1;have:i=a.n:=by rw [List.length_append,s.len] at hl;simp at hl;lia
   subst this;rw [List.getElem?_append_right (by rw [s.len];exact Nat.le_refl _),s.len] at e;simp at e;subst e;rw [new];show ORep _ o (upd a.H p ho p);rw [Gk];exact r
 ·have hi':i < a.n + 1:=hi;by_cases h1:i < a.n
  ·rw [old i h1];show upd a.H p ho (a.m i)≠none;rw [Bc (nep i h1)];exact s.tr i h1
  ·have:i=a.n:=by lia
   subst this;rw [new];show upd a.H p ho p≠none;rw [Gk];simp
theorem Ext.wr (h:a.H p=some (.lst vs)):Ext a (a.put p ho):=
 ⟨rfl,Nat.le_refl _,λ_ _=>rfl,λq xs e=>by
  show upd a.H p ho q=_;rw [Bc (λz=>by subst z;rw [h] at e;cases e)];exact e,λq o u e=>by
  show upd a.H p ho q=_;rw [Bc (λz=>by subst z;rw [h] at e;cases e)];exact e,λ_ t=>t.mono (λq ps e=>by show upd a.H p ho q=_;rw [Bc (λz=>by subst z;rw [h] at e;cases e)];exact e) (λq o u e=>by show upd a.H p ho q=_;rw [Bc (λz=>by subst z;rw [h] at e;cases e)];exact e)⟩
theorem Sim.wr (s:Sim a G) (hi:i < a.n) {vs':List V} {ds':List D} (h:a.H (a.m i)=some (.lst vs)) (r:Reps (a.put (a.m i) (.lst vs')) ds' vs'):Sim (a.put (a.m i) (.lst vs')) (G.set i (.lst ds')):=by
 refine ⟨by rw [List.length_set];exact s.len,s.inj,λj o e=> ?_,λj hj=> ?_⟩
 ·rw [List.getElem?_set] at e;show ORep _ o (upd a.H (a.m i) (.lst vs') (a.m j));by_cases hij:i=j
  ·subst hij;rw [if_pos rfl,if_pos (by rw [s.len];exact hi)] at e;cases e;rw [Gk];exact ⟨vs',rfl,r⟩
  ·rw [if_neg hij] at e;rw [Bc λz=>hij (s.inj _ _ (s.lt e) hi z).symm];exact (s.obj j o e).mono (Ext.wr h)
 ·show upd a.H (a.m i) (.lst vs') (a.m j)≠none;by_cases hij:a.m j=a.m i
  ·rw [hij,Gk];simp
  ·rw [Bc hij];exact s.tr j hj
mutual
noncomputable def bel (n:Nat):D->Bool
 | .ref i=>decide (i < n)
 | .tup ds=>bels n ds
 | .fl ds=>bels n ds
 | _=>true
noncomputable def bels (n:Nat):List D->Bool
 | []=>true
 | d::ds=>bel n d && bels n ds
end
noncomputable def Nq (n:Nat):DO->Bool
 | .lst ds=>bels n ds
 | .dct kvs=>bels n (kvs.map (·.2))
 | .ins _ fs=>bels n (fs.map (·.2))
 | .tab _ _=>true
 | .gone=>true
mutual
theorem Rep.bel:∀{d:D} {v:V},Rep a d v->bel a.n d=true
 | .non,_,_=>by simp [DL.bel]
 | .bl _,_,_=>by simp [DL.bel]
 | .int _,_,_=>by simp [DL.bel]
 | .str _,_,_=>by simp [DL.bel]
 | .ty _,_,_=>by simp [DL.bel]
 | .tup ds,v,h=>by obtain ⟨p,vs,e,q,r⟩:=h;simp only [DL.bel];exact Reps.bels r
 | .fl ds,v,h=>by obtain ⟨p,vs,e,q,r⟩:=h;simp only [DL.bel];exact Reps.bels r
 | .ref i,v,h=>by obtain ⟨l,e⟩:=h;simp only [DL.bel];exact decide_eq_true l
theorem Reps.bels:∀{ds:List D} {vs:List V},Reps a ds vs->bels a.n ds=true
 | [],_,_=>by simp [DL.bels]
 | d::ds,vs,h=>by
  obtain ⟨v,r,e,h1,h2⟩:=h;simp only [DL.bels];rw [Rep.bel h1,Reps.bels h2]
  rfl
end
structure Cut (b c:Wd):Prop where
 k:c.K=b.K
 h:c.H=b.H
mutual
theorem Rep.cut {c:Wd} (x:Cut b c) {n:Nat} (hn:n<=c.n) (hm:∀i,i < n->c.m i=b.m i):∀{d:D} {v:V},Rep b d v->bel n d=true->Rep c d v
 | .non,_,h,_=>h
 | .bl _,_,h,_=>h
 | .int _,_,h,_=>h
 | .str _,_,h,_=>h
 | .ty _,_,h,_=>h
 | .tup ds,v,h,q=>by obtain ⟨p,vs,e,t,r⟩:=h;simp only [DL.bel] at q;exact ⟨p,vs,e,by rw [x.k,x.h];exact t,Reps.cut x hn hm r q⟩
 | .fl ds,v,h,q=>by obtain ⟨p,vs,e,t,r⟩:=h;simp only [DL.bel] at q;exact ⟨p,vs,e,by rw [x.k,x.h];exact t,Reps.cut x hn hm r q⟩
 | .ref i,v,h,q=>by obtain ⟨l,e⟩:=h;simp only [DL.bel] at q;have q':=of_decide_eq_true q;exact ⟨Nat.lt_of_lt_of_le q' hn,by rw [hm i q'];exact e⟩
theorem Reps.cut {c:Wd} (x:Cut b c) {n:Nat} (hn:n<=c.n) (hm:∀i,i < n->c.m i=b.m i):∀{ds:List D} {vs:List V},Reps b ds vs->bels n ds=true->Reps c ds vs
 | [],_,h,_=>h
 | d::ds,vs,h,q=>by obtain ⟨v,r,e,h1,h2⟩:=h;simp only [DL.bels,Bool.and_eq_true] at q;exact ⟨v,r,e,Rep.cut x hn hm h1 q.1,Reps.cut x hn hm h2 q.2⟩
end
theorem ORep.cut {c:Wd} (x:Cut b c) {n:Nat} (hn:n<=c.n) (hm:∀i,i < n->c.m i=b.m i) {q:Option HO} (h:ORep b o q) (l:Nq n o=true):ORep c o q:=by
 cases o with
 | lst ds=>obtain ⟨vs,e,r⟩:=h;exact ⟨vs,e,Reps.cut x hn hm r l⟩
 | dct kvs=>obtain ⟨us,e,k,r⟩:=h;exact ⟨us,e,k,Reps.cut x hn hm r l⟩
 | ins c fs=>obtain ⟨C,dx,us,n,e,k,r⟩:=h;exact ⟨C,dx,us,by rw [x.k];exact n,e,k,Reps.cut x hn hm r l⟩
 | tab C m=>obtain ⟨c,P,e,t⟩:=h;exact ⟨c,P,by rw [x.k];exact e,by rw [x.h];exact t⟩
 | gone=>trivial
theorem ORep.Nq {q:Option HO} (h:ORep a o q):Nq a.n o=true:=by
 cases o with
 | lst ds=>obtain ⟨vs,e,r⟩:=h;exact r.bels
 | dct kvs=>obtain ⟨us,e,k,r⟩:=h;exact r.bels
 | ins c fs=>obtain ⟨C,dx,us,n,e,k,r⟩:=h;exact r.bels
 | tab C m=>rfl
 | gone=>rfl
open Classical in
noncomputable def tidy (G:DH) (r:R D):R D:=match r with
 | .ok d G'=>if G'.take G.length=G then
   (if bel G.length d=true then .ok d G else match d with
    | .ref i=>match G'[i]? with
     | some o=>if Nq G.length o=true then .ok (.ref G.length) (G++ [o]) else .ok d G'
     | none=>.ok d G'
    | _=>.ok d G') else .ok d G'
 | r=>r
theorem ZE6 (s:Sim a G) (h:out E a (tidy G r) Q):out E a r Q:=by
 cases r with
 | err e G'=>exact h
 | bad=>exact h
 | ok d G'=>
  intro b v x sb rb;unfold tidy at h;dsimp only at h;split at h
  ·rename_i hG;have hlen:∀i o,G[i]? =some o->G'[i]? =some o:=λi o e=>by have hi:i < G.length:=(List.getElem?_eq_some_iff.mp e).1;rw [<-hG,List.getElem?_take_of_lt hi] at e;exact e
   have base:∀(c:Wd),Cut b c->a.n<=c.n->(∀i,i < a.n->c.m i=b.m i)->∀i o,G[i]? =some o->ORep c o (c.H (c.m i)):=λc cc hn hm i o e=>by have q:=sb.obj i o (hlen i o e);rw [cc.h,hm i (s.lt e)];exact q.cut cc hn hm (s.obj i o e).Nq
   split at h
   ·rename_i hb;rw [s.len] at hb;let c:Wd:=⟨b.K,a.n,b.m,b.H⟩;have cc:Cut b c:=⟨rfl,rfl⟩;refine h c v ⟨x.k,Nat.le_refl _,x.m,x.tup,x.frz,x.tab⟩ ⟨s.len,λi j hi hj=>sb.inj i j (Nat.lt_of_lt_of_le hi x.n) (Nat.lt_of_lt_of_le hj x.n),base c cc (Nat.le_refl _) (λ_ _=>rfl),λi hi=>sb.tr i (Nat.lt_of_lt_of_le hi x.n)⟩ ?_;exact rb.cut cc (Nat.le_refl _) (λ_ _=>rfl) hb
   ·rename_i hb;split at h
    ·rename_i i;obtain ⟨il,iv⟩:=rb;split at h
     ·rename_i o ho;split at h
      ·rename_i hbo;rw [s.len] at hbo hb h;simp only [DL.bel,decide_eq_true_eq] at hb;let c:Wd:=⟨b.K,a.n + 1,λk=>if k=a.n then b.m i else b.m k,b.H⟩;have cc:Cut b c:=⟨rfl,rfl⟩;have cm:∀j,j < a.n->c.m j=b.m j:=λj hj=>by show (if j=a.n then b.m i else b.m j)=_;rw [if_neg (Nat.ne_of_lt hj)]
       have cn:c.m a.n=b.m i:=by show (if a.n=a.n then b.m i else b.m a.n)=_;rw [if_pos rfl]
       have lt':∀j,j < a.n->j < b.n:=λj hj=>Nat.lt_of_lt_of_le hj x.n
       refine h c v ⟨x.k,Nat.le_succ _,λj hj=>(cm j hj).trans (x.m j hj),x.tup,x.frz,x.tab⟩ ⟨by simp [s.len,c],λj k hj hk e=> ?_,λj u e=> ?_,λj hj=> ?_⟩ ⟨Nat.lt_succ_self _,by rw [cn];exact iv⟩
       ·have hj':j < a.n + 1:=hj;have hk':k < a.n + 1:=hk;by_cases h1:j < a.n
        ·by_cases h2:k < a.n
         ·rw [cm j h1,cm k h2] at e;exact sb.inj j k (lt' j h1) (lt' k h2) e
         ·have:k=a.n:=by lia
          subst this;rw [cm j h1,cn] at e;have:=sb.inj j i (lt' j h1) il e;lia
        ·have:j=a.n:=by lia
         subst this;by_cases h2:k < a.n
         ·rw [cm k h2,cn] at e;have:=sb.inj i k il (lt' k h2) e;lia
         ·lia
       ·by_cases h1:j < a.n
        ·rw [List.getElem?_append_left (by rw [s.len];exact h1)] at e;exact base c cc (Nat.le_succ _) cm j u e
        ·have hl:j < (G++ [o]).length:=(List.getElem?_eq_some_iff.mp e).1;have:j=a.n:=by rw [List.length_append,s.len] at hl;simp at hl;lia
         subst this;rw [List.getElem?_append_right (by rw [s.len];exact Nat.le_refl _),s.len] at e;simp at e;subst e;rw [cn];exact (sb.obj i o ho).cut cc (Nat.le_succ _) cm hbo
       ·have hj':j < a.n + 1:=hj;by_cases h1:j < a.n
        ·rw [cm j h1];exact sb.tr j (lt' j h1)
        ·have:j=a.n:=by lia
         subst this;rw [cn];exact sb.tr i il
      ·exact h b v x sb ⟨il,iv⟩
     ·exact h b v x sb ⟨il,iv⟩
    ·exact h b v x sb rb
  ·exact h b v x sb rb
end
noncomputable def dV (i:Nat):DE:=λS G=>match S[i]? with
 | some (some d)=>.ok d G
 | _=>.bad
noncomputable def dC (d:D):DE:=λ_ G=>.ok d G
noncomputable def dOp (f:D->D->DH->R D) (a b:DE):DE:=λS G=>(a S G).bind λx G1=>(b S G1).bind λy G2=>f x y G2
noncomputable def dUn (f:D->DH->R D) (a:DE):DE:=λS G=>(a S G).bind f
noncomputable def Ae:DA:=λ_ G=>.ok [] G
noncomputable def Ab (a:DE) (r:DA):DA:=λS G=>(a S G).bind λx G1=>(r S G1).bind λxs G2=>.ok (x::xs) G2
noncomputable def dFn (f:List D->DH->R D) (t:DA):DE:=λS G=>(t S G).bind f
noncomputable def Ff (t:DE):DE:=λS G=>tidy G (t S G)
noncomputable def asB:D->DH->R Bool
 | .bl k,G=>.ok k G
 | _,_=>.bad
noncomputable def Aw (t:DE):DB:=λS G=>(t S G).bind asB
noncomputable def K5 (t u:DB):DB:=λS G=>(t S G).bind λk G1=>if k=true then u S G1 else .ok false G1
noncomputable def dOr (t u:DB):DB:=λS G=>(t S G).bind λk G1=>if k=true then .ok true G1 else u S G1
noncomputable def Iv (t:DB):DB:=λS G=>(t S G).bind λk G1=>.ok (!k) G1
noncomputable def N7 (t u:DE):DE:=λS G=>(t S G).bind λx G1=>(asB x G1).bind λk G2=>if k=true then u S G2 else .ok (.bl false) G2
noncomputable def Zx (t u:DE):DE:=λS G=>(t S G).bind λx G1=>(asB x G1).bind λk G2=>if k=true then .ok (.bl true) G2 else u S G2
noncomputable def ZAb (t:DE):DE:=λS G=>(t S G).bind λx G1=>(asB x G1).bind λk G2=>.ok (.bl (!k)) G2
noncomputable def dIf (c:DB) (t u:DE):DE:=λS G=>(c S G).bind λk G1=>if k=true then t S G1 else u S G1
noncomputable def Uh (f g:D->D->DH->R D) (a b c:DE):DE:=λS G=>(a S G).bind λx G1=>(b S G1).bind λy G2=>(f x y G2).bind λz G3=>(asB z G3).bind λk G4=>
 if k=true then (c S G4).bind λw G5=>g y w G5 else .ok (.bl false) G4
noncomputable def Bq (ds:List D) (G:DH):R D:=if ds.length<=1000000 then .ok (.tup ds) G else .bad
noncomputable def Ar (ds:List D) (G:DH):R D:=if ds.length<=1000000 then .ok (.ref G.length) (G++ [.lst ds]) else .bad
noncomputable def Cd (d:D) (G:DH):Option (List D):=match d with
 | .tup xs=>some xs
 | .fl xs=>some xs
 | .ref i=>match G[i]? with
  | some (.lst xs)=>some xs
  | _=>none
 | _=>none
theorem size6:(1000000:Nat)<=sizeLine:=by decide
section
variable {X:Cx} {E:XK} {a b c:Expr} {ta tb tc:DE} {pos:Pos}
theorem two (h:lE K E (dOp f ta tb) σ H Q):tOp (lR2 K E f) (lE K E ta) (lE K E tb) σ H Q:=by obtain ⟨a,S,G,hk,rfl,s,r,h⟩:=h;refine ⟨a,S,G,hk,rfl,s,r,(Gh h).imp ?_⟩;rintro v _ ⟨b,d,G1,rfl,x,s1,q,_,h1⟩;refine ⟨b,S,G1,x.k.trans hk,rfl,s1,r.mono x,(Gh h1).imp ?_⟩;rintro w _ ⟨c,e,G2,rfl,y,s2,q2,_,h2⟩;exact ⟨c,G2,d,e,y.k.trans (x.k.trans hk),rfl,s2,q.mono y,q2,h2⟩
theorem Aa (i:Nat) {pos:Pos} (hN:X.N[i]? =some x:=by rfl) (hv:Vis X.env.scope x:=by first | exact Or.inl rfl | exact Or.inr (Or.inl rfl) | exact Or.inr (Or.inr rfl)) (hd:(x == ("__debug__":Str))=false:=by decide)
  (hcd:(x == ("__classdict__":Str))=false:=by decide):QE X E (.Name x pos) (dV i):=by
 refine (ZPs hN hv hd hcd).mono λσ H Q h=> ?_
 obtain ⟨a,S,G,hk,rfl,s,r,h⟩:=h;unfold dV at h;split at h
 ·rename_i d e;obtain ⟨v,e',q⟩:=r.get i d e;exact ⟨v,e',h a v (Ext.refl a) s q⟩
 ·exact h.elim
theorem Q5 (h:lE K E (dC d) σ H Q) (r:∀a:Wd,a.K=K->Rep a d v):Q v H:=by obtain ⟨a,S,G,hk,rfl,s,_,h⟩:=h;exact h a v (Ext.refl a) s (r a hk)
theorem Ad {i:Int} :QE X E (.Constant (.int i) j pos) (dC (.int i)):=ZMl.mono λσ H Q h=>Q5 h λ_ _=>rfl
theorem Hy {i:Bool} :QE X E (.Constant (.bool i) j pos) (dC (.bl i)):=ZNN.mono λσ H Q h=>Q5 h λ_ _=>rfl
theorem Im:QE X E (.Constant .none j pos) (dC .non):=ZMz.mono λσ H Q h=>Q5 h λ_ _=>rfl
theorem Ft {i:Str} :QE X E (.Constant (.str i) j pos) (dC (.str i)):=ZOd.mono λσ H Q h=>Q5 h λ_ _=>rfl
theorem Cv {u:Value} (hg:Gl X x) (hm:X.mg x=some u) (r:RelV v u) (rd:∀a:Wd,a.K=X.K->Rep a d v) (hd:(x == ("__debug__":Str))=false:=by decide):QE X E (.Name x pos) (dC d):=
 (ZMR hg hm r hd).mono λσ H Q h=>Q5 h rd
theorem Ag {op:Operator} (ho:OpR X (binaryOp op) (lR2 X.K E f)) (ha:QE X E a ta) (hb:QE X E b tb):QE X E (.BinOp a op b pos) (dOp f ta tb):=
 (ZIs ho ha hb).mono λ_ _ _ h=>two h
theorem O3 {op:CmpOp} (ho:OpR X (compareOp op) (lR2 X.K E f)) (ha:QE X E a ta) (hb:QE X E b tb) (hm:behindInMarks op b=false):QE X E (.Compare a [op] [b] pos) (dOp f ta tb):=
 (ZJ1 ho ha hb hm).mono λ_ _ _ h=>two h
theorem ZCq {Q:Bool->Hp->Prop} (h:lB K E (Aw t) σ H Q):Te (lE K E t) σ H Q:=by
 obtain ⟨a,S,G,hk,rfl,s,r,h⟩:=h;refine ⟨a,S,G,hk,rfl,s,r,(ZJD h).imp ?_⟩;rintro v _ ⟨b,d,G1,rfl,x,s1,q,_,h1⟩;cases d with
 | bl k=>exact ⟨k,q,h1 b (Ext.refl b) s1⟩
 | _=>exact h1.elim
theorem ZDk {t t':TE} (w:∀σ H Q,t' σ H Q->t σ H Q) (σ:St) (H:Hp) (Q:Bool->Hp->Prop) (h:Te t' σ H Q):Te t σ H Q:=w _ _ _ h
theorem Bp {op:CmpOp} (ho:OpR X (compareOp op) (lR2 X.K E f)) (ha:QE X E a ta) (hb:QE X E b tb) (hm:behindInMarks op b=false):QT X E (.Compare a [op] [b] pos) (Aw (dOp f ta tb)):=
 (ZMh ho ha hb hm).mono λσ H Q h=>ZDk (λ_ _ _ z=>two z) σ H Q (ZCq h)
theorem chain {g:D->D->DH->R D} (h:lE K E (Uh f g ta tb tc) σ H Q):ZHV (lR2 K E f) (lR2 K E g) (lE K E ta) (lE K E tb) (lE K E tc) σ H Q:=by
 obtain ⟨a,S,G,hk,rfl,s,r,h⟩:=h;refine ⟨a,S,G,hk,rfl,s,r,(Gh h).imp ?_⟩;rintro v _ ⟨b,d,G1,rfl,x,s1,q,_,h1⟩;refine ⟨b,S,G1,x.k.trans hk,rfl,s1,r.mono x,(Gh h1).imp ?_⟩;rintro w _ ⟨c,e,G2,rfl,y,s2,q2,_,h2⟩;refine ⟨c,G2,d,e,y.k.trans (x.k.trans hk),rfl,s2,q.mono y,q2,(Gh h2).imp ?_⟩;rintro z _ ⟨c3,e3,G3,rfl,y3,s3,q3,_,h3⟩;cases e3 with
 | bl k=>
  refine ⟨k,q3,?_⟩;cases k with
  | false=>exact h3 c3 (.bl false) (Ext.refl _) s3 rfl
  | true=>
   refine ⟨c3,S,G3,(y3.k.trans (y.k.trans (x.k.trans hk))),rfl,s3,((r.mono x).mono y).mono y3,(Gh h3).imp ?_⟩;rintro z4 _ ⟨c4,e4,G4,rfl,y4,s4,q4,_,h4⟩;exact ⟨c4,G4,e,e4,y4.k.trans (y3.k.trans (y.k.trans (x.k.trans hk))),rfl,s4,(q2.mono y3).mono y4,q4,h4⟩
 | _=>exact h3.elim
theorem ZJi {op op':CmpOp} {g:D->D->DH->R D} (ho:OpR X (compareOp op) (lR2 X.K E f)) (ho':OpR X (compareOp op') (lR2 X.K E g)) (ha:QE X E a ta) (hb:QE X E b tb) (hc:QE X E c tc)
  (hm:lastMarks [op,op'] [b,c]=false:=by with_unfolding_all rfl):QT X E (.Compare a [op,op'] [b,c] pos) (Aw (Uh f g ta tb tc)):=
 (ZIt ho ho' ha hb hc hm).mono λσ H Q h=>ZDk (λ_ _ _ z=>chain z) σ H Q (ZCq h)
theorem Hg (ha:QE X E a ta) (he:∀whole,isTrue a X.env whole=(do let v<-whole;standAt a.pos;holding [v] (truthy v)):=by intro _;rfl):QT X E a (Aw ta):=
 (ZL4 ha he).mono λσ H Q h=>ZCq h
theorem Gq (ha:QE X E a ta):QE X E a (Ff ta):=L2.PE.mono ha λσ H Q h=>by obtain ⟨w,S,G,hk,rfl,s,r,h⟩:=h;exact ⟨w,S,G,hk,rfl,s,r,ZE6 s h⟩
noncomputable def QW (X:Cx) (E:XK) (e:Expr) (t:DB):Prop:=PW X e (lB X.K E t)
theorem _root_.L2.PW.mono {t t':TT} (h:PW X e t) (w:∀σ H Q,t' σ H Q->t σ H Q):PW X e t':=λwh pins s σ H Q I q=>h wh pins s σ H Q I (w σ H Q q)
variable {u t:DB} {rest:List Expr}
theorem ZPg {Q:Bool->Hp->Prop} (h:lB K E (K5 t u) σ H Q):tAnd (lB K E t) (lB K E u) σ H Q:=by
 obtain ⟨a,S,G,hk,rfl,s,r,h⟩:=h;refine ⟨a,S,G,hk,rfl,s,r,(Yh h).imp ?_⟩;rintro k _ ⟨b,G1,rfl,x,s1,_,h1⟩;cases k with
 | true=>exact ⟨b,S,G1,x.k.trans hk,rfl,s1,r.mono x,h1⟩
 | false=>exact h1 b (Ext.refl b) s1
theorem ZMt {Q:Bool->Hp->Prop} (h:lB K E (dOr t u) σ H Q):tOr (lB K E t) (lB K E u) σ H Q:=by
 obtain ⟨a,S,G,hk,rfl,s,r,h⟩:=h;refine ⟨a,S,G,hk,rfl,s,r,(Yh h).imp ?_⟩;rintro k _ ⟨b,G1,rfl,x,s1,_,h1⟩;cases k with
 | true=>exact h1 b (Ext.refl b) s1
 | false=>exact ⟨b,S,G1,x.k.trans hk,rfl,s1,r.mono x,h1⟩
theorem R0 (ha:QT X E a t):QW X E (.BoolOp .And [a] pos) t:=pw_and1 ha
theorem Jb (ha:QT X E a t):QW X E (.BoolOp .Or [a] pos) t:=pw_or1 ha
theorem Nm (ha:QT X E a t) (hb:QW X E (.BoolOp .And (b::rest) pos) u):QW X E (.BoolOp .And (a::b::rest) pos) (K5 t u):=(pw_and ha hb).mono λ_ _ _ h=>ZPg h
theorem J1 (ha:QT X E a t) (hb:QW X E (.BoolOp .Or (b::rest) pos) u):QW X E (.BoolOp .Or (a::b::rest) pos) (dOr t u):=(pw_or ha hb).mono λ_ _ _ h=>ZMt h
theorem Gn (h:QW X E a t):QT X E a t:=L2.PW.pt h
theorem Jf (ha:QT X E a t):QT X E (.UnaryOp .Not a pos) (Iv t):=(ZKw ha).mono λσ H Q h=>by obtain ⟨a,S,G,hk,rfl,s,r,h⟩:=h;refine ⟨a,S,G,hk,rfl,s,r,(Yh h).imp ?_⟩;rintro k _ ⟨b,G1,rfl,x,s1,_,h1⟩;exact h1 b (Ext.refl b) s1
theorem S9 {op} (h:QE X E a ta):QE X E (.BoolOp op [a] pos) ta:=ZOK h
theorem Ro (ha:QE X E a ta) (hb:QE X E (.BoolOp .And (b::rest) pos) tb):QE X E (.BoolOp .And (a::b::rest) pos) (N7 ta tb):=(ZMo ha hb).mono λσ H Q h=>by
 obtain ⟨a,S,G,hk,rfl,s,r,h⟩:=h;refine ⟨a,S,G,hk,rfl,s,r,(Gh h).imp ?_⟩;rintro v _ ⟨b,d,G1,rfl,x,s1,q,_,h1⟩;cases d with
 | bl k=>
  refine ⟨k,q,?_⟩;cases k with
  | true=>exact ⟨b,S,G1,x.k.trans hk,rfl,s1,r.mono x,h1⟩
  | false=>exact h1 b _ (Ext.refl b) s1 rfl
 | _=>exact h1.elim
theorem ZLz (ha:QE X E a ta) (hb:QE X E (.BoolOp .Or (b::rest) pos) tb):QE X E (.BoolOp .Or (a::b::rest) pos) (Zx ta tb):=(ZOc ha hb).mono λσ H Q h=>by
 obtain ⟨a,S,G,hk,rfl,s,r,h⟩:=h;refine ⟨a,S,G,hk,rfl,s,r,(Gh h).imp ?_⟩;rintro v _ ⟨b,d,G1,rfl,x,s1,q,_,h1⟩;cases d with
 | bl k=>
  refine ⟨k,q,?_⟩;cases k with
  | false=>exact ⟨b,S,G1,x.k.trans hk,rfl,s1,r.mono x,h1⟩
  | true=>exact h1 b _ (Ext.refl b) s1 rfl
 | _=>exact h1.elim
theorem ZNl (ha:QE X E a ta):QE X E (.UnaryOp .Not a pos) (ZAb ta):=(ZO8 ha).mono λσ H Q h=>by
 obtain ⟨a,S,G,hk,rfl,s,r,h⟩:=h;refine ⟨a,S,G,hk,rfl,s,r,(Gh h).imp ?_⟩;rintro v _ ⟨b,d,G1,rfl,x,s1,q,_,h1⟩;cases d with
 | bl k=>exact ⟨k,q,h1 b _ (Ext.refl b) s1 rfl⟩
 | _=>exact h1.elim
theorem ZH2 (hc:QT X E c t) (ha:QE X E a ta) (hb:QE X E b tb):QE X E (.IfExp c a b pos) (dIf t ta tb):=(ZKI hc ha hb).mono λσ H Q h=>by
 obtain ⟨a,S,G,hk,rfl,s,r,h⟩:=h;refine ⟨a,S,G,hk,rfl,s,r,(ZEh h).imp ?_⟩;rintro k _ ⟨b,G1,rfl,x,s1,_,h1⟩;cases k with
 | true=>exact ⟨b,S,G1,x.k.trans hk,rfl,s1,r.mono x,h1⟩
 | false=>exact ⟨b,S,G1,x.k.trans hk,rfl,s1,r.mono x,h1⟩
variable {es:List Expr} {tr:DA}
theorem Af:QA X E [] Ae:=ZIf.mono λσ H Q h=>by obtain ⟨a,S,G,hk,rfl,s,r,h⟩:=h;exact h a [] (Ext.refl a) s rfl
noncomputable def notStar:Expr->Bool
 | .Starred _ _=>false
 | _=>true
theorem Nf (a:Expr) (es:List Expr) (env:Env) (h:notStar a=true):starEach (a::es) env=(false,eval a env)::starEach es env:=by
 cases a <;> first
  | exact absurd h Bool.false_ne_true
  | rfl
theorem Pq (pos:Pos) (env:Env):∀es:List Expr,es.all notStar=true->(backTo pos (starEach es env)).any (·.1)=false
 | [],_=>rfl
 | a::es,h=>by
  rw [List.all_cons,Bool.and_eq_true] at h;rw [Nf a es env h.1];have ih:=Pq pos env es h.2;unfold backTo at ih ⊢;rw [List.map_cons,List.any_cons,ih]
  rfl
theorem Ac (ha:QE X E a ta) (hr:QA X E es tr) (hs:notStar a=true:=by rfl):QA X E (a::es) (Ab ta tr):=(ZOR ha hr (Nf a es X.env hs)).mono λσ H Q h=>by obtain ⟨a,S,G,hk,rfl,s,r,h⟩:=h;refine ⟨a,S,G,hk,rfl,s,r,(ZPH h).imp ?_⟩;rintro v _ ⟨b,d,G1,rfl,x,s1,q,_,h1⟩;refine ⟨b,S,G1,x.k.trans hk,rfl,s1,r.mono x,(ZK4 h1).imp ?_⟩;rintro vs _ ⟨c,ds,G2,rfl,y,s2,q2,_,h2⟩;exact h2 c _ (Ext.refl c) s2 (Reps.cons (q.mono y) q2)
theorem Fd {x1} (h:QA X E es tr):QE X E (.Tuple es x1 pos) (dFn Bq tr):=(ZPF h).mono λσ H Q h=>by
 obtain ⟨a,S,G,hk,rfl,s,r,h⟩:=h;refine ⟨a,S,G,hk,rfl,s,r,(Np h).imp ?_⟩;rintro vs _ ⟨b,ds,G1,rfl,x,s1,q,_,h1⟩;unfold Bq at h1;split at h1
 ·rename_i hl;refine ⟨by rw [<-q.length];exact Nat.le_trans hl size6,λp hp=> ?_⟩;exact h1 (b.put p (.tup vs)) (.ref p) (Ext.put hp) (s1.put hp) ⟨p,vs,rfl,.of Gk,q.mono (Ext.put hp)⟩
 ·exact h1.elim
theorem Fp (h:QA X E es tr):QE X E (.List es pos) (dFn Ar tr):=(ZPW h).mono λσ H Q h=>by
 obtain ⟨a,S,G,hk,rfl,s,r,h⟩:=h;refine ⟨a,S,G,hk,rfl,s,r,(Np h).imp ?_⟩;rintro vs _ ⟨b,ds,G1,rfl,x,s1,q,_,h1⟩;unfold Ar at h1;split at h1
 ·rename_i hl;refine ⟨by rw [<-q.length];exact Nat.le_trans hl size6,λp hp=> ?_⟩;refine h1 (b.push p (.lst vs)) (.ref p) (Ext.push hp) (s1.push hp ⟨vs,rfl,q.mono (Ext.push hp)⟩) ⟨?_,?_⟩
  ·rw [s1.len];exact Nat.lt_succ_self _
  ·rw [s1.len];show V.ref p=.ref (if b.n=b.n then p else b.m b.n);rw [if_pos rfl]
 ·exact h1.elim
variable {e:Expr} {x:Str} {p:Pos}
theorem Zd {f:List D->DH->R D} (h:lE K E (dFn f tr) σ H Q):lA K E tr σ H (λvs H1=>lRn K E f vs H1 Q):=by obtain ⟨a,S,G,hk,rfl,s,r,h⟩:=h;refine ⟨a,S,G,hk,rfl,s,r,(Np h).imp ?_⟩;rintro vs _ ⟨b,ds,G1,rfl,x,s1,q,_,h1⟩;exact ⟨b,G1,ds,x.k.trans hk,rfl,s1,q,h1⟩
theorem Bm {id:String} {f:List D->DH->R D} (hc:CallR X (.builtin id) (lRn X.K E f)) (hg:Gl X x) (hm:X.mg x=none) (hv:bootBuiltins x=some (.builtin id)) (ha:QA X E (e::es) tr) (hn:x≠"__name__":=by decide) (hdb:(x == ("__debug__":Str))=false:=by decide)
  (he:notStar e=true:=by rfl) (hpl:es.all notStar=true:=by rfl):QE X E (.Call (.Name x p) (e::es) [] pos) (dFn f tr):=
 (ZJV hc hg hm hv ha hn hdb (Nf e es X.env he) (Pq pos X.env es hpl)).mono λσ H Q h=>Zd h
theorem J6 {id:String} {f:List D->DH->R D} (hc:CallR X (.type id) (lRn X.K E f)) (hg:Gl X x) (hm:X.mg x=none) (hv:bootBuiltins x=some (.type id)) (ha:QA X E (e::es) tr) (hn:x≠"__name__":=by decide) (hdb:(x == ("__debug__":Str))=false:=by decide)
  (he:notStar e=true:=by rfl) (hpl:es.all notStar=true:=by rfl):QE X E (.Call (.Name x p) (e::es) [] pos) (dFn f tr):=
 (ZL9 hc hg hm hv ha hn hdb (Nf e es X.env he) (Pq pos X.env es hpl)).mono λσ H Q h=>Zd h
theorem Ba {CX:CXT} {f:Addr} {fd:FuncData} {ps:List Str} {F:List D->DH->R D} (FF:FnOk X.prog X.w X.K X.mg X.base CX k f fd ps (lF X.K F)) (hr:Room k X.A) (hg:Gl X x) (hm:X.mg x=some (.ref f)) (hk:PySem.W.keepIn X.K (.ref f)=true) (hb:Binds X.K fd ps [])
  (hx:Passes CX X E) (ha:QA X E (e::es) tr) (hdb:(x == ("__debug__":Str))=false:=by decide) (he:notStar e=true:=by rfl) (hpl:es.all notStar=true:=by rfl):
  QE X E (.Call (.Name x p) (e::es) [] pos) (dFn F tr):=
 (ZH9 FF hr hg hm hk hb .nil hx ha hdb (Nf e es X.env he) (Pq pos X.env es hpl)).mono λσ H Q h=>by obtain ⟨a,S,G,hk,rfl,s,r,h⟩:=Zd h;refine ⟨a,S,G,hk,rfl,s,r,h.imp ?_⟩;rintro vs _ ⟨b,G1,ds,hk,rfl,s1,q,h1⟩;exact ⟨b,G1,ds,hk,rfl,s1,by rw [List.append_nil];exact q,h1⟩
theorem Al (hr:IxR X (lR2 X.K E f)) (ha:QE X E a ta) (hb:QE X E b tb) (hs:PlainIx b:=by intro _ _;rfl):QE X E (.Subscript a b pos) (dOp f ta tb):=
 (ZNa hr ha hb hs).mono λ_ _ _ h=>two h
end
noncomputable instance (i j:Int):Decidable (CMul i j):=by unfold CMul;infer_instance
noncomputable instance (i j:Int):Decidable (CPow i j):=by unfold CPow;infer_instance
noncomputable def CDivL (j:Int):Prop:=0 < j/\j.natAbs.log2 < 9000
noncomputable instance (j:Int):Decidable (CDivL j):=by unfold CDivL;infer_instance
noncomputable def Ez:D->D->DH->R D
 | .int i,.int j,G=>.ok (.int (i - j)) G
 | _,_,_=>.bad
noncomputable def Dg:D->D->DH->R D
 | .int i,.int j,G=>if CDivL j then .ok (.int (i / j)) G else .bad
 | _,_,_=>.bad
noncomputable def Bo:D->D->DH->R D
 | .int i,.int j,G=>if 0 < j then .ok (.int (i % j)) G else .bad
 | _,_,_=>.bad
noncomputable def Jr:D->D->DH->R D
 | .int i,.int j,G=>if CPow i j then .ok (.int (i ^ j.toNat)) G else .bad
 | _,_,_=>.bad
noncomputable def K4:D->D->DH->R D
 | .int i,.int j,G=>.ok (.bl (decide (i < j))) G
 | .str i,.str j,G=>.ok (.bl (decide (i.cps.toList < j.cps.toList))) G
 | _,_,_=>.bad
noncomputable def Ug:D->D->DH->R D
 | .int i,.int j,G=>.ok (.bl (decide (i<=j))) G
 | .str i,.str j,G=>.ok (.bl (!decide (j.cps.toList < i.cps.toList))) G
 | _,_,_=>.bad
noncomputable def Je:D->D->DH->R D
 | .int i,.int j,G=>.ok (.bl (decide (j < i))) G
 | .str i,.str j,G=>.ok (.bl (decide (j.cps.toList < i.cps.toList))) G
 | _,_,_=>.bad
noncomputable def Xj:D->D->DH->R D
 | .int i,.int j,G=>.ok (.bl (decide (j<=i))) G
 | .str i,.str j,G=>.ok (.bl (!decide (i.cps.toList < j.cps.toList))) G
 | _,_,_=>.bad
noncomputable def I9 (d:D) (G:DH):Option (List D):=match d with
 | .fl xs=>some xs
 | .ref i=>match G[i]? with
  | some (.lst xs)=>some xs
  | _=>none
 | _=>none
noncomputable def Ay:D->D->DH->R D
 | .int i,.int j,G=>.ok (.int (i + j)) G
 | .str i,.str j,G=>if i.length + j.length<=1000000 then .ok (.str (i++j)) G else .bad
 | .tup xs,.tup ys,G=>if xs≠ []/\xs.length + ys.length<=1000000 then .ok (.tup (xs++ys)) G else .bad
 | d,e,G=>match I9 d G,I9 e G with
  | some xs,some ys=>if xs.length + ys.length<=1000000 then .ok (.ref G.length) (G++ [.lst (xs++ys)]) else .bad
  | _,_=>.bad
section
variable {X:Cx} {E:XK}
theorem Hx {f:Value->Value->Sem Value} {r:R2} {F:D->D->DH->R D} (ho:OpR X f r)
  (h:∀(a:Wd) (G:DH) (d e:D) (x y:V) (Q:VK),a.K=X.K->Sim a G->Rep a d x->Rep a e y->out E a (F d e G) Q->r x y a.H Q):OpR X f (lR2 X.K E F):=
 ho.mono λx y H Q ⟨a,G,d,e,hk,hH,s,rd,re,q⟩=>by subst hH;exact h a G d e x y Q hk s rd re q
theorem Gp:OpR X (binaryOp .Sub) (lR2 X.K E Ez):=Hx ZI5 λa G d e x y Q hk s rd re q=>by
 cases d <;> cases e <;> first
  | exact q.elim
  | exact ⟨_,_,rd,re,q a _ (Ext.refl a) s rfl⟩
theorem ZMw:OpR X (binaryOp .FloorDiv) (rI (λ_ j=>CDivL j) λi j=>.int (i / j)):=opI λi j _ _ _ _ _ hc q=>by have e:i.fdiv j=i / j:=Int.fdiv_eq_ediv_of_nonneg _ (Int.le_of_lt hc.1);refine floordiv_int (by have:=hc.1;lia) (by rw [e];exact q) (.inl (PyProof.noPylong_of_log2 hc.2))
theorem Dp:OpR X (binaryOp .FloorDiv) (lR2 X.K E Dg):=Hx ZMw λa G d e x y Q hk s rd re q=>by
 cases d <;> cases e <;> first
  | exact q.elim
  | (
    rename_i i j;unfold Dg at q;dsimp only at q;split at q
    ·exact ⟨_,_,rd,re,by assumption,q a _ (Ext.refl a) s rfl⟩
    ·exact q.elim)
theorem Bt:OpR X (binaryOp .Mod) (lR2 X.K E Bo):=Hx ZIi λa G d e x y Q hk s rd re q=>by
 cases d <;> cases e <;> first
  | exact q.elim
  | (
    rename_i i j;unfold Bo at q;dsimp only at q;split at q
    ·exact ⟨_,_,rd,re,by assumption,q a _ (Ext.refl a) s rfl⟩
    ·exact q.elim)
theorem Ob:OpR X (binaryOp .Pow) (lR2 X.K E Jr):=Hx ZOu λa G d e x y Q hk s rd re q=>by
 cases d <;> cases e <;> first
  | exact q.elim
  | (
    rename_i i j;unfold Jr at q;dsimp only at q;split at q
    ·exact ⟨_,_,rd,re,by assumption,q a _ (Ext.refl a) s rfl⟩
    ·exact q.elim)
theorem Lw:OpR X (compareOp .Lt) (lR2 X.K E K4):=Hx (ZJL.or ZPS) λa G d e x y Q hk s rd re q=>by
 cases d <;> cases e <;> first
  | exact q.elim
  | exact .inl ⟨_,_,rd,re,q a _ (Ext.refl a) s rfl⟩
  | exact .inr ⟨_,_,rd,re,q a _ (Ext.refl a) s rfl⟩
theorem ZKP:OpR X (compareOp .LtE) (λx y H Q=>∃i j,x=.str i/\y=.str j/\Q (.bl (!decide (j.cps.toList < i.cps.toList))) H):=by intro pins s σ H x y v u Q I rx ry h;obtain ⟨i,j,rfl,rfl,q⟩:=h;obtain ⟨t,rfl⟩:=rx;obtain ⟨t',rfl⟩:=ry;exact PySem.P.le_str ⟨.bl _,H,I,rfl,q⟩
theorem ZNT:OpR X (compareOp .Gt) (λx y H Q=>∃i j,x=.str i/\y=.str j/\Q (.bl (decide (j.cps.toList < i.cps.toList))) H):=by intro pins s σ H x y v u Q I rx ry h;obtain ⟨i,j,rfl,rfl,q⟩:=h;obtain ⟨t,rfl⟩:=rx;obtain ⟨t',rfl⟩:=ry;exact PySem.P.gt_str ⟨.bl _,H,I,rfl,q⟩
theorem ZNo:OpR X (compareOp .GtE) (λx y H Q=>∃i j,x=.str i/\y=.str j/\Q (.bl (!decide (i.cps.toList < j.cps.toList))) H):=by intro pins s σ H x y v u Q I rx ry h;obtain ⟨i,j,rfl,rfl,q⟩:=h;obtain ⟨t,rfl⟩:=rx;obtain ⟨t',rfl⟩:=ry;exact PySem.P.ge_str ⟨.bl _,H,I,rfl,q⟩
theorem o_le:OpR X (compareOp .LtE) (lR2 X.K E Ug):=Hx (ZNt.or ZKP) λa G d e x y Q hk s rd re q=>by
 cases d <;> cases e <;> first
  | exact q.elim
  | exact .inl ⟨_,_,rd,re,q a _ (Ext.refl a) s rfl⟩
  | exact .inr ⟨_,_,rd,re,q a _ (Ext.refl a) s rfl⟩
theorem Lh:OpR X (compareOp .Gt) (lR2 X.K E Je):=Hx (ZK3.or ZNT) λa G d e x y Q hk s rd re q=>by
 cases d <;> cases e <;> first
  | exact q.elim
  | exact .inl ⟨_,_,rd,re,q a _ (Ext.refl a) s rfl⟩
  | exact .inr ⟨_,_,rd,re,q a _ (Ext.refl a) s rfl⟩
theorem o_ge:OpR X (compareOp .GtE) (lR2 X.K E Xj):=Hx (ZKm.or ZNo) λa G d e x y Q hk s rd re q=>by
 cases d <;> cases e <;> first
  | exact q.elim
  | exact .inl ⟨_,_,rd,re,q a _ (Ext.refl a) s rfl⟩
  | exact .inr ⟨_,_,rd,re,q a _ (Ext.refl a) s rfl⟩
theorem Sim.lst (s:Sim a G) (h:G[i]? =some (.lst xs)):∃vs,a.H (a.m i)=some (.lst vs)/\Reps a xs vs:=s.obj i _ h
theorem Ls (s:Sim a G) (r:Reps a ds vs) (h:out E a (.ok (.ref G.length) (G++ [.lst ds])) Q) (p:Addr) (hp:a.H p=none):Q (.ref p) (upd a.H p (.lst vs)):=by
 refine h (a.push p (.lst vs)) (.ref p) (Ext.push hp) (s.push hp ⟨vs,rfl,r.mono (Ext.push hp)⟩) ⟨?_,?_⟩
 ·rw [s.len];exact Nat.lt_succ_self _
 ·rw [s.len];show V.ref p=.ref (if a.n=a.n then p else a.m a.n);rw [if_pos rfl]
theorem ZB8 (s:Sim a G) (r:Reps a ds vs) (h:out E a (.ok (.tup ds) G) Q) (p:Addr) (hp:a.H p=none):Q (.ref p) (upd a.H p (.tup vs)):=
 h (a.put p (.tup vs)) (.ref p) (Ext.put hp) (s.put hp) ⟨p,vs,rfl,.of Gk,r.mono (Ext.put hp)⟩
theorem R4 {x:V} (s:Sim a G) (r:Rep a d x) (h:I9 d G=some xs):∃p vs,x=.ref p/\SqL a.K a.H p vs/\Reps a xs vs:=by
 cases d with
 | fl ys=>
  have e:ys=xs:=Option.some.inj h;subst e;obtain ⟨p,vs,e,q,rr⟩:=r;exact ⟨p,vs,e,q.sq,rr⟩
 | ref i=>
  unfold I9 at h;dsimp only at h;split at h
  ·rename_i ys hi;have e:ys=xs:=Option.some.inj h;subst e;obtain ⟨vs,e1,r1⟩:=s.lst hi;exact ⟨a.m i,vs,r.2,.of e1,r1⟩
  ·cases h
 | _=>cases h
noncomputable def ZHs (K:PySem.W.Frag):R2:=λx y H Q=>∃l b xs zs,x=.ref l/\y=.ref b/\SqL K H l xs/\SqL K H b zs/\xs.length + zs.length<=sizeLine/\∀p,H p=none->Q (.ref p) (upd H p (.lst (xs++zs)))
theorem ZNj:OpR X (binaryOp .Add) (ZHs X.K):=by
 intro pins s σ H x y v u Q I rx ry h;obtain ⟨l,b,xs,zs,rfl,rfl,hH,hB,hz,q⟩:=h;cases rx;cases ry;obtain ⟨its,r,p1,_⟩:=I.list hH;obtain ⟨its2,r2,p2,_⟩:=I.list hB;obtain ⟨⟨cls,dd,data,sl⟩,n,ho,hc,_,hd⟩:=p1;obtain ⟨⟨cls2,dd2,data2,sl2⟩,n2,ho2,hc2,_,hd2⟩:=p2;cases hc;cases hd;cases hc2;cases hd2;have hl:=r.length;have hl2:=r2.length;refine concat_meets ⟨_,ho,rfl⟩ ⟨_,ho2,rfl⟩ noFill_list_add seq_list_add PySem.F.slot_list_add PySem.F.entry_list_add (PySem.F.args_list_add_2 _ _) (list_addW l b its.toArray its2.toArray n n2 dd dd2 sl sl2 (by rw [List.size_toArray,List.size_toArray];lia)) ⟨ho,ho2,?_⟩
 have ea:its.toArray++its2.toArray=(its++its2).toArray:=by simp
 rw [ea];exact ⟨.ref _,_,I.lnew (t':=s.toks) (r.append r2) (by rw [List.length_append];lia),rfl,q _ I.fresh⟩
theorem Bd:OpR X (binaryOp .Add) (lR2 X.K E Ay):=Hx (ZLv.or (ZO1.or (ZNj.or ZM0))) λa G d e x y Q hk s rd re q=>by
 have lst:out E a (match I9 d G,I9 e G with
  | some xs,some ys=>if xs.length + ys.length<=1000000 then .ok (.ref G.length) (G++ [.lst (xs++ys)]) else .bad
  | _,_=>.bad) Q->ZHs X.K x y a.H Q:=λq=>by
  split at q
  ·rename_i xs ys h1 h2;split at q
   ·rename_i hl;obtain ⟨p,vs,e1,q1,r1⟩:=R4 s rd h1;obtain ⟨p',vs',e2,q2,r2⟩:=R4 s re h2;rw [hk] at q1 q2;exact ⟨p,p',vs,vs',e1,e2,q1,q2,by rw [<-r1.length,<-r2.length];exact Nat.le_trans hl size6,λp hp=>Ls s (r1.append r2) q p hp⟩
   ·exact q.elim
  ·exact q.elim
 have L:=λq=>Or.inr (a:=rI0 (λi j=>V.int (i + j)) x y a.H Q) (Or.inr (a:=∃i j,x=.str i/\y=.str j/\i.length + j.length<=sizeLine/\Q (.str (i++j)) a.H) (Or.inl (b:=ZEq X.K x y a.H Q) (lst q)))
 cases d <;> cases e <;> first
  | exact .inl ⟨_,_,rd,re,q a _ (Ext.refl a) s rfl⟩
  | exact L q
  | skip
 ·rename_i i j;unfold Ay at q;dsimp only at q;split at q
  ·rename_i hl;exact .inr (.inl ⟨_,_,rd,re,Nat.le_trans hl size6,q a _ (Ext.refl a) s rfl⟩)
  ·exact q.elim
 ·rename_i xs ys;unfold Ay at q;dsimp only at q;split at q
  ·rename_i hl;obtain ⟨p,vs,e1,h1,r1⟩:=rd;obtain ⟨p',vs',e2,h2,r2⟩:=re;rw [hk] at h1 h2;refine .inr (.inr (.inr ⟨p,p',vs,vs',e1,e2,h1,h2,λz=>hl.1 (List.eq_nil_of_length_eq_zero (by rw [r1.length,z];rfl)),by rw [<-r1.length,<-r2.length];exact Nat.le_trans hl.2 size6,λz=> ?_,λ_ p0 hp=> ?_⟩))
   ·refine q a (.ref p) (Ext.refl a) s ⟨p,vs,rfl,by rw [hk];exact h1,?_⟩;have e3:ys= []:=List.eq_nil_of_length_eq_zero (by rw [r2.length,z];rfl);rw [e3,List.append_nil];exact r1
   ·exact ZB8 s (r1.append r2) q p0 hp
  ·exact q.elim
inductive VD where
 | flat (v:V)
 | lst (xs:List D)
 | tup (xs:List D)
 | bad
noncomputable def view (G:DH):D->VD
 | .non=>.flat .non
 | .bl b=>.flat (.bl b)
 | .int i=>.flat (.int i)
 | .str x=>.flat (.str x)
 | .ty _=>.bad
 | .tup xs=>.tup xs
 | .fl xs=>.lst xs
 | .ref i=>match G[i]? with
  | some (.lst xs)=>.lst xs
  | _=>.bad
noncomputable def eqZ (f:D->D->Option Bool):List D->List D->Option Bool
 | x::xs,y::ys=>match f x y,eqZ f xs ys with
  | some a,some b=>some (a && b)
  | _,_=>none
 | _,_=>some true
noncomputable def eqD:Nat->DH->D->D->Option Bool
 | 0=>λ_ _ _=>none
 | n + 1=>λG d e=>match view G d,view G e with
  | .flat a,.flat b=>some (eqV a b)
  | .lst xs,.lst ys=>if xs.length=ys.length then eqZ (eqD n G) xs ys else some false
  | .tup xs,.tup ys=>match eqZ (eqD n G) xs ys with
   | some b=>some (b && xs.length == ys.length)
   | none=>none
  | .bad,_=>none
  | _,.bad=>none
  | _,_=>some false
theorem X8 {f:D->D->Option Bool}:∀{xs ys:List D} {k:Bool},eqZ f xs ys=some k->∃e:Nat->Bool,(∀(j:Nat) (x y:D),xs[j]? =some x->ys[j]? =some y->f x y=some (e j))/\k=(List.range (min xs.length ys.length)).all e
 | [],ys,k,h=>⟨λ_=>true,λj x y e1 _=>by simp at e1,by
   have h':some true=some k:=by cases ys <;> exact h
   cases h';simp⟩
 | x::xs,[],k,h=>⟨λ_=>true,λj x y _ e1=>by simp at e1,by have h':some true=some k:=h;cases h';simp⟩
 | x::xs,y::ys,k,h=>by
  unfold eqZ at h;split at h
  ·rename_i a b h1 h2;obtain ⟨e,he,hk⟩:=X8 h2;have h':(a && b)=k:=Option.some.inj h
   refine ⟨λj=>match j with | 0=>a | j + 1=>e j,λj x' y' e1 e2=> ?_,?_⟩
   ·cases j with
    | zero=>simp at e1 e2;subst e1;subst e2;exact h1
    | succ j=>exact he j x' y' (by simpa using e1) (by simpa using e2)
   ·rw [<-h',hk];have:min (x::xs).length (y::ys).length=min xs.length ys.length + 1:=by simp only [List.length_cons];lia
    rw [this,List.range_succ_eq_map,List.all_cons,List.all_map]
    rfl
  ·cases h
theorem Vk (s:Sim a G) {x:V} (r:Rep a d x):match view G d with
  | .flat v=>x=v/\Mt v=true
  | .lst xs=>∃p vs,x=.ref p/\SqL a.K a.H p vs/\Reps a xs vs
  | .tup xs=>∃p vs,x=.ref p/\SqT a.K a.H p vs/\Reps a xs vs
  | .bad=>True:=by
 cases d with
 | non=>exact ⟨r,rfl⟩
 | bl b=>exact ⟨r,rfl⟩
 | int b=>exact ⟨r,rfl⟩
 | str b=>exact ⟨r,rfl⟩
 | ty n=>trivial
 | tup xs=>
  obtain ⟨p,vs,e,h,q⟩:=r;exact ⟨p,vs,e,h,q⟩
 | fl xs=>
  obtain ⟨p,vs,e,h,q⟩:=r;exact ⟨p,vs,e,h.sq,q⟩
 | ref i=>
  unfold view;dsimp only;split
  ·rename_i v hv
   split at hv <;> cases hv
  ·rename_i xs hv;split at hv
   ·rename_i ys hi;cases hv;obtain ⟨vs,e1,r1⟩:=s.lst hi;exact ⟨a.m i,vs,r.2,.of e1,r1⟩
   ·cases hv
  ·rename_i xs hv
   split at hv <;> cases hv
  ·trivial
theorem ZI2 {y x:V} {u v:Value} (ry:RelV y u) (rx:RelV x v) (fy:Mt y=true) (fx:Mt x=true):SeqAt.RcAt A s u v (eqV y x):=by
 cases y with
 | non=>
  cases ry;cases x with
  | non=>cases rx;exact SeqAt.RcAt.none_none
  | bl b=>cases rx;exact SeqAt.RcAt.none_bool b
  | int b=>obtain ⟨t,rfl⟩:=rx;exact SeqAt.RcAt.none_int b t
  | str b=>obtain ⟨t,rfl⟩:=rx;exact SeqAt.RcAt.none_str b t
  | _=>exact absurd (show false=true from fx) Bool.false_ne_true
 | bl a=>
  cases ry;cases x with
  | non=>cases rx;exact SeqAt.RcAt.bool_none a
  | bl b=>cases rx;exact SeqAt.RcAt.bool_bool a b
  | int b=>obtain ⟨t,rfl⟩:=rx;exact SeqAt.RcAt.bool_int a b t
  | str b=>obtain ⟨t,rfl⟩:=rx;exact SeqAt.RcAt.bool_str a b t
  | _=>exact absurd (show false=true from fx) Bool.false_ne_true
 | int a=>
  obtain ⟨t',rfl⟩:=ry;cases x with
  | non=>cases rx;exact SeqAt.RcAt.int_none a t'
  | bl b=>cases rx;exact SeqAt.RcAt.int_bool a t' b
  | int b=>obtain ⟨t,rfl⟩:=rx;exact SeqAt.RcAt.int_int a t' b t
  | str b=>obtain ⟨t,rfl⟩:=rx;exact SeqAt.RcAt.int_str a t' b t
  | _=>exact absurd (show false=true from fx) Bool.false_ne_true
 | str a=>
  obtain ⟨t',rfl⟩:=ry;cases x with
  | non=>cases rx;exact SeqAt.RcAt.str_none a t'
  | bl b=>cases rx;exact SeqAt.RcAt.str_bool a t' b
  | int b=>obtain ⟨t,rfl⟩:=rx;exact SeqAt.RcAt.str_int a t' b t
  | str b=>obtain ⟨t,rfl⟩:=rx;exact SeqAt.RcAt.str_str a t' b t
  | _=>exact absurd (show false=true from fx) Bool.false_ne_true
 | _=>exact absurd (show false=true from fy) Bool.false_ne_true
theorem ZPc {y x:V} {u v:Value} (ry:RelV y u) (rx:RelV x v) (fy:Mt y=true) (fx:Mt x=true):SeqAt.RcNeAt A s u v (!eqV y x):=by
 cases y with
 | non=>
  cases ry;cases x with
  | non=>cases rx;exact SeqAt.RcNeAt.none_none
  | bl b=>cases rx;exact SeqAt.RcNeAt.none_bool b
  | int b=>obtain ⟨t,rfl⟩:=rx;exact SeqAt.RcNeAt.none_int b t
  | str b=>obtain ⟨t,rfl⟩:=rx;exact SeqAt.RcNeAt.none_str b t
  | _=>exact absurd (show false=true from fx) Bool.false_ne_true
 | bl a=>
  cases ry;cases x with
  | non=>cases rx;exact SeqAt.RcNeAt.bool_none a
  | bl b=>cases rx;exact SeqAt.RcNeAt.bool_bool a b
  | int b=>obtain ⟨t,rfl⟩:=rx;exact SeqAt.RcNeAt.bool_int a b t
  | str b=>obtain ⟨t,rfl⟩:=rx;exact SeqAt.RcNeAt.bool_str a b t
  | _=>exact absurd (show false=true from fx) Bool.false_ne_true
 | int a=>
  obtain ⟨t',rfl⟩:=ry;cases x with
  | non=>cases rx;exact SeqAt.RcNeAt.int_none a t'
  | bl b=>cases rx;exact SeqAt.RcNeAt.int_bool a t' b
  | int b=>obtain ⟨t,rfl⟩:=rx;exact SeqAt.RcNeAt.int_int a t' b t
  | str b=>obtain ⟨t,rfl⟩:=rx;exact SeqAt.RcNeAt.int_str a t' b t
  | _=>exact absurd (show false=true from fx) Bool.false_ne_true
 | str a=>
  obtain ⟨t',rfl⟩:=ry;cases x with
  | non=>cases rx;exact SeqAt.RcNeAt.str_none a t'
  | bl b=>cases rx;exact SeqAt.RcNeAt.str_bool a t' b
  | int b=>obtain ⟨t,rfl⟩:=rx;exact SeqAt.RcNeAt.str_int a t' b t
  | str b=>obtain ⟨t,rfl⟩:=rx;exact SeqAt.RcNeAt.str_str a t' b t
  | _=>exact absurd (show false=true from fx) Bool.false_ne_true
 | _=>exact absurd (show false=true from fy) Bool.false_ne_true
end
section
variable {X:Cx} {E:XK} {pins:List (Addr×Obj)} {σ:St} {s:Shared}
theorem ZOp (v:V) (h:Mt v=true):eqV v v=true:=by cases v <;> first | rfl | exact absurd (show false=true from h) Bool.false_ne_true | (simp [eqV])
theorem ZET (I:Inv X pins σ a.H s) (hk:a.K=X.K) (sm:Sim a G):∀(n:Nat) {d e:D} {x:V} {k:Bool},Rep a d x->Rep a e x->eqD n G d e=some k->k=true
 | 0,_,_,_,_,_,_,h=>by cases h
 | n + 1,d,e,x,k,rd,re,h=>by
  have vd:=Vk sm rd;have ve:=Vk sm re;have items:∀{xs ys:List D} {vs:List V} {b:Bool},Reps a xs vs->Reps a ys vs->eqZ (eqD n G) xs ys=some b->b=true:=λ{xs ys vs b} r1 r2 hz=>by obtain ⟨f,hf,hb⟩:=X8 hz;rw [hb,List.all_eq_true];intro j hj;have hj':j < min xs.length ys.length:=List.mem_range.mp hj;have h1:xs[j]? =some (xs[j]'(by lia)):=List.getElem?_eq_getElem (by lia);have h2:ys[j]? =some (ys[j]'(by lia)):=List.getElem?_eq_getElem (by lia);obtain ⟨v1,e1,q1⟩:=r1.get h1;obtain ⟨v2,e2,q2⟩:=r2.get h2;rw [e1] at e2;cases e2;exact ZET I hk sm n q1 q2 (hf j _ _ h1 h2)
  unfold eqD at h
  try dsimp only at h
  revert h vd ve
  cases view G d <;> cases view G e <;> intro vd ve h <;> dsimp only at h vd ve <;> first
   | cases h
   | skip
  ·
   rename_i v w;obtain ⟨rfl,f1⟩:=vd;obtain ⟨rfl,f2⟩:=ve;exact ZOp _ f1
  ·obtain ⟨rfl,f1⟩:=vd;obtain ⟨p,vs,e1,_⟩:=ve;subst e1;cases f1
  ·obtain ⟨rfl,f1⟩:=vd;obtain ⟨p,vs,e1,_⟩:=ve;subst e1;cases f1
  ·obtain ⟨rfl,f1⟩:=ve;obtain ⟨p,vs,e1,_⟩:=vd;subst e1;cases f1
  ·obtain ⟨p,vs,e1,h1,r1⟩:=vd;obtain ⟨p',vs',e2,h2,r2⟩:=ve;rw [e1] at e2;cases e2;rw [hk] at h1 h2;cases I.ZCg h1 h2;split at h
   ·exact items r1 r2 h
   ·rename_i hl;exact absurd (r1.length.trans r2.length.symm) hl
  ·obtain ⟨p,vs,e1,h1,r1⟩:=vd;obtain ⟨p',vs',e2,h2,r2⟩:=ve;rw [e1] at e2;cases e2;rw [hk] at h1 h2;obtain ⟨_,_,pl,_⟩:=I.list h1;obtain ⟨_,_,pt,_⟩:=I.tuple h2;exact absurd rfl (SeqAt.ne_of_list_tuple pl.isList pt)
  ·obtain ⟨rfl,f1⟩:=ve;obtain ⟨p,vs,e1,_⟩:=vd;subst e1;cases f1
  ·obtain ⟨p,vs,e1,h1,r1⟩:=vd;obtain ⟨p',vs',e2,h2,r2⟩:=ve;rw [e1] at e2;cases e2;rw [hk] at h1 h2;obtain ⟨_,_,pl,_⟩:=I.list h2;obtain ⟨_,_,pt,_⟩:=I.tuple h1;exact absurd rfl (SeqAt.ne_of_list_tuple pl.isList pt)
  ·obtain ⟨p,vs,e1,h1,r1⟩:=vd;obtain ⟨p',vs',e2,h2,r2⟩:=ve;rw [e1] at e2;cases e2;rw [hk] at h1 h2;cases I.Yj h1 h2;split at h
   ·rename_i b hz;have h':(b && _)=k:=Option.some.inj h;rw [<-h',items r1 r2 hz,r1.length,r2.length];simp
   ·cases h
theorem Wv {its:List Value} (r:Reps a xs vs) (q:Vals vs its) (h:j < its.toArray.size):∃d v,xs[j]? =some d/\Rep a d v/\RelV v its.toArray[j]:=by
 have hl:j < its.length:=by simpa using h
 have h2:j < vs.length:=by rw [q.length];exact hl
 obtain ⟨v,e1⟩:∃v,vs[j]? =some v:=⟨vs[j],List.getElem?_eq_getElem h2⟩;obtain ⟨d,e2,rd⟩:=r.get' e1;obtain ⟨u,e3,ru⟩:=q.get e1;have e4:u=its.toArray[j]:=by have:its[j]? =some its[j]:=List.getElem?_eq_getElem hl;rw [this] at e3;simpa using (Option.some.inj e3).symm
 exact ⟨d,v,e2,rd,by rw [<-e4];exact ru⟩
theorem Xv (I:Inv X pins σ a.H s) (hk:a.K=X.K) (sm:Sim a G):∀(n:Nat) {A:Around} {d e:D} {x y:V} {u w:Value} {k:Bool},A.units + n < cLine->Rep a d x->Rep a e y->RelV x u->RelV y w->eqD n G d e=some k->
  SeqAt.EqAt A s u w k/\SeqAt.RcAt A s u w k/\SeqAt.RcNeAt A s u w (!k)
 | 0,_,_,_,_,_,_,_,_,_,_,_,_,_,h=>by cases h
 | n + 1,A,d,e,x,y,u,w,k,hu,rd,re,ru,rw',h=>by
  have vd:=Vk sm rd;have ve:=Vk sm re;have hu1:A.units < cLine:=by lia
  have hu2:A.in1.units + n < cLine:=by show A.units + 1 + n < cLine;lia
  have same:∀{z:V},Rep a d z->Rep a e z->eqD (n + 1) G d e=some k->k=true:=λr1 r2 r3=>ZET I hk sm (n + 1) r1 r2 r3
  have h0:=h;unfold eqD at h
  try dsimp only at h
  have refs:∀{p q:Addr} {k:Bool},(p=q->k=true)->SeqAt.RcAt A s (.ref p) (.ref q) k->SeqAt.EqAt A s (.ref p) (.ref q) k:=λ{p q k} hs hr=>by
   by_cases e:p=q
   ·rw [hs e,e];exact SeqAt.EqAt.same _
   ·exact SeqAt.EqAt.of_refs e hr
  revert h vd ve
  cases hvd:view G d <;> cases hve:view G e <;> intro vd ve h <;> dsimp only at h vd ve <;> first
   | cases h
   | skip
  ·
   obtain ⟨rfl,f1⟩:=vd;obtain ⟨rfl,f2⟩:=ve;exact ⟨ZKM ru rw' f1 f2,ZI2 ru rw' f1 f2,ZPc ru rw' f1 f2⟩
  ·
   obtain ⟨rfl,f1⟩:=vd;obtain ⟨q,vs,rfl,h2,r2⟩:=ve;cases rw';rw [hk] at h2;obtain ⟨its,qv,pl,_⟩:=I.list h2;cases x with
   | non=>cases ru;exact ⟨SeqAt.EqAt.none_list pl.isList hu1,SeqAt.RcAt.none_list pl.isList hu1,SeqAt.RcNeAt.none_list pl.isList hu1⟩
   | bl b=>cases ru;exact ⟨SeqAt.EqAt.bool_list b pl.isList hu1,SeqAt.RcAt.bool_list b pl.isList hu1,SeqAt.RcNeAt.bool_list b pl.isList hu1⟩
   | int b=>obtain ⟨t,rfl⟩:=ru;exact ⟨SeqAt.EqAt.int_list b t pl.isList hu1,SeqAt.RcAt.int_list b t pl.isList hu1,SeqAt.RcNeAt.int_list b t pl.isList hu1⟩
   | str b=>obtain ⟨t,rfl⟩:=ru;exact ⟨SeqAt.EqAt.str_list b t pl.isList hu1,SeqAt.RcAt.str_list b t pl.isList hu1,SeqAt.RcNeAt.str_list b t pl.isList hu1⟩
   | _=>exact absurd (show false=true from f1) Bool.false_ne_true
  ·
   obtain ⟨rfl,f1⟩:=vd;obtain ⟨q,vs,rfl,h2,r2⟩:=ve;cases rw';rw [hk] at h2;obtain ⟨its,qv,pl,_⟩:=I.tuple h2;cases x with
   | non=>cases ru;exact ⟨SeqAt.EqAt.none_tuple pl hu1,SeqAt.RcAt.none_tuple pl hu1,SeqAt.RcNeAt.none_tuple pl hu1⟩
   | bl b=>cases ru;exact ⟨SeqAt.EqAt.bool_tuple b pl hu1,SeqAt.RcAt.bool_tuple b pl hu1,SeqAt.RcNeAt.bool_tuple b pl hu1⟩
   | int b=>obtain ⟨t,rfl⟩:=ru;exact ⟨SeqAt.EqAt.int_tuple b t pl hu1,SeqAt.RcAt.int_tuple b t pl hu1,SeqAt.RcNeAt.int_tuple b t pl hu1⟩
   | str b=>obtain ⟨t,rfl⟩:=ru;exact ⟨SeqAt.EqAt.str_tuple b t pl hu1,SeqAt.RcAt.str_tuple b t pl hu1,SeqAt.RcNeAt.str_tuple b t pl hu1⟩
   | _=>exact absurd (show false=true from f1) Bool.false_ne_true
  ·
   obtain ⟨rfl,f1⟩:=ve;obtain ⟨q,vs,rfl,h2,r2⟩:=vd;cases ru;rw [hk] at h2;obtain ⟨its,qv,pl,_⟩:=I.list h2;cases y with
   | non=>cases rw';exact ⟨SeqAt.EqAt.list_none pl.isList hu1,SeqAt.RcAt.list_none pl.isList hu1,SeqAt.RcNeAt.list_none pl.isList hu1⟩
   | bl b=>cases rw';exact ⟨SeqAt.EqAt.list_bool b pl.isList hu1,SeqAt.RcAt.list_bool b pl.isList hu1,SeqAt.RcNeAt.list_bool b pl.isList hu1⟩
   | int b=>obtain ⟨t,rfl⟩:=rw';exact ⟨SeqAt.EqAt.list_int b t pl.isList hu1,SeqAt.RcAt.list_int b t pl.isList hu1,SeqAt.RcNeAt.list_int b t pl.isList hu1⟩
   | str b=>obtain ⟨t,rfl⟩:=rw';exact ⟨SeqAt.EqAt.list_str b t pl.isList hu1,SeqAt.RcAt.list_str b t pl.isList hu1,SeqAt.RcNeAt.list_str b t pl.isList hu1⟩
   | _=>exact absurd (show false=true from f1) Bool.false_ne_true
  ·
   obtain ⟨p,vs,rfl,h1,r1⟩:=vd;obtain ⟨q,vs',rfl,h2,r2⟩:=ve;cases ru;cases rw';rw [hk] at h1 h2;obtain ⟨its,q1,p1,_⟩:=I.list h1;obtain ⟨its',q2,p2,_⟩:=I.list h2;have sz1:its.toArray.size=vs.length:=by rw [List.size_toArray];exact q1.length.symm
   have sz2:its'.toArray.size=vs'.length:=by rw [List.size_toArray];exact q2.length.symm
   split at h
   ·rename_i hl;obtain ⟨f,hf,hb⟩:=X8 h;have hsz:its.toArray.size=its'.toArray.size:=by rw [sz1,sz2,<-r1.length,<-r2.length];exact hl
    have he:∀j (g1:j < its.toArray.size) (g2:j < its'.toArray.size),SeqAt.EqAt A.in1 s its.toArray[j] its'.toArray[j] (f j):=λj g1 g2=>by obtain ⟨d1,v1,e1,rd1,rv1⟩:=Wv r1 q1 g1;obtain ⟨d2,v2,e2,rd2,rv2⟩:=Wv r2 q2 g2;exact (Xv I hk sm n hu2 rd1 rd2 rv1 rv2 (hf j d1 d2 e1 e2)).1
    have hk':k=(List.range its.toArray.size).all f:=by
     rw [hb]
     congr 2
     rw [sz1,<-r1.length,hl];lia
    have rc:SeqAt.RcAt A s (.ref p) (.ref q) k:=by rw [hk'];exact SeqAt.RcAt.lists p1.isList p2.isList hsz hu1 he
    refine ⟨refs (λe=> ?_) rc,rc,by rw [hk'];exact SeqAt.RcNeAt.lists p1.isList p2.isList hsz hu1 he⟩;subst e;exact same rd re h0
   ·rename_i hl;have h':false=k:=Option.some.inj h;subst h';have hsz:(its.toArray.size != its'.toArray.size)=true:=by rw [bne_iff_ne,sz1,sz2,<-r1.length,<-r2.length];exact hl
    refine ⟨refs (λe=> ?_) (SeqAt.RcAt.lists_lengths p1.isList p2.isList hsz hu1),SeqAt.RcAt.lists_lengths p1.isList p2.isList hsz hu1,SeqAt.RcNeAt.lists_lengths p1.isList p2.isList hsz hu1⟩;subst e;exact same rd re h0
  ·
   obtain ⟨p,vs,rfl,h1,r1⟩:=vd;obtain ⟨q,vs',rfl,h2,r2⟩:=ve;cases ru;cases rw';rw [hk] at h1 h2;obtain ⟨its,q1,p1,_⟩:=I.list h1;obtain ⟨its',q2,p2,_⟩:=I.tuple h2;exact ⟨SeqAt.EqAt.list_tuple p1.isList p2 hu1,SeqAt.RcAt.list_tuple p1.isList p2 hu1,SeqAt.RcNeAt.list_tuple p1.isList p2 hu1⟩
  ·
   obtain ⟨rfl,f1⟩:=ve;obtain ⟨q,vs,rfl,h2,r2⟩:=vd;cases ru;rw [hk] at h2;obtain ⟨its,qv,pl,_⟩:=I.tuple h2;cases y with
   | non=>cases rw';exact ⟨SeqAt.EqAt.tuple_none pl hu1,SeqAt.RcAt.tuple_none pl hu1,SeqAt.RcNeAt.tuple_none pl hu1⟩
   | bl b=>cases rw';exact ⟨SeqAt.EqAt.tuple_bool b pl hu1,SeqAt.RcAt.tuple_bool b pl hu1,SeqAt.RcNeAt.tuple_bool b pl hu1⟩
   | int b=>obtain ⟨t,rfl⟩:=rw';exact ⟨SeqAt.EqAt.tuple_int b t pl hu1,SeqAt.RcAt.tuple_int b t pl hu1,SeqAt.RcNeAt.tuple_int b t pl hu1⟩
   | str b=>obtain ⟨t,rfl⟩:=rw';exact ⟨SeqAt.EqAt.tuple_str b t pl hu1,SeqAt.RcAt.tuple_str b t pl hu1,SeqAt.RcNeAt.tuple_str b t pl hu1⟩
   | _=>exact absurd (show false=true from f1) Bool.false_ne_true
  ·
   obtain ⟨p,vs,rfl,h1,r1⟩:=vd;obtain ⟨q,vs',rfl,h2,r2⟩:=ve;cases ru;cases rw';rw [hk] at h1 h2;obtain ⟨its,q1,p1,_⟩:=I.tuple h1;obtain ⟨its',q2,p2,_⟩:=I.list h2;exact ⟨SeqAt.EqAt.tuple_list p1 p2.isList hu1,SeqAt.RcAt.tuple_list p1 p2.isList hu1,SeqAt.RcNeAt.tuple_list p1 p2.isList hu1⟩
  ·
   rename_i xs ys;obtain ⟨p,vs,rfl,h1,r1⟩:=vd;obtain ⟨q,vs',rfl,h2,r2⟩:=ve;cases ru;cases rw';rw [hk] at h1 h2;obtain ⟨its,q1,p1,_⟩:=I.tuple h1;obtain ⟨its',q2,p2,_⟩:=I.tuple h2;have sz1:its.toArray.size=xs.length:=by rw [List.size_toArray,r1.length];exact q1.length.symm
   have sz2:its'.toArray.size=ys.length:=by rw [List.size_toArray,r2.length];exact q2.length.symm
   split at h
   ·rename_i b hz;have h':(b && xs.length == ys.length)=k:=Option.some.inj h;obtain ⟨f,hf,hb⟩:=X8 hz;have he:∀j (g1:j < its.toArray.size) (g2:j < its'.toArray.size),SeqAt.EqAt A.in1 s its.toArray[j] its'.toArray[j] (f j):=λj g1 g2=>by obtain ⟨d1,v1,e1,rd1,rv1⟩:=Wv r1 q1 g1;obtain ⟨d2,v2,e2,rd2,rv2⟩:=Wv r2 q2 g2;exact (Xv I hk sm n hu2 rd1 rd2 rv1 rv2 (hf j d1 d2 e1 e2)).1
    have hk':k=((List.range (min its.toArray.size its'.toArray.size)).all f && its.toArray.size == its'.toArray.size):=by rw [<-h',hb,sz1,sz2]
    have rc:SeqAt.RcAt A s (.ref p) (.ref q) k:=by rw [hk'];exact SeqAt.RcAt.tuples p1 p2 hu1 he
    refine ⟨refs (λe=> ?_) rc,rc,by rw [hk'];exact SeqAt.RcNeAt.tuples p1 p2 hu1 he⟩;subst e;exact same rd re h0
   ·cases h
noncomputable def Dj (d e:D) (G:DH):R D:=match eqD 30 G d e with
 | some k=>.ok (.bl k) G
 | none=>.bad
noncomputable def Jo (d e:D) (G:DH):R D:=match eqD 30 G d e with
 | some k=>.ok (.bl (!k)) G
 | none=>.bad
theorem Dw (hu:X.A.units + 64 < cLine):OpR X (compareOp .Eq) (lR2 X.K E Dj):=by
 intro pins s σ H x y v u Q I rx ry ⟨a,G,d,e,hk,hH,sm,rd,re,q⟩;subst hH;unfold Dj at q;split at q
 ·rename_i k hd;exact (Xv I hk sm 30 (by lia) rd re rx ry hd).2.1 _ _ _ _ ⟨.bl k,a.H,I,rfl,q a _ (Ext.refl a) sm rfl⟩
 ·exact q.elim
theorem Mr (hu:X.A.units + 64 < cLine):OpR X (compareOp .NotEq) (lR2 X.K E Jo):=by
 intro pins s σ H x y v u Q I rx ry ⟨a,G,d,e,hk,hH,sm,rd,re,q⟩;subst hH;unfold Jo at q;split at q
 ·rename_i k hd;exact (Xv I hk sm 30 (by lia) rd re rx ry hd).2.2 _ _ _ _ ⟨.bl (!k),a.H,I,rfl,q a _ (Ext.refl a) sm rfl⟩
 ·exact q.elim
end
noncomputable abbrev DG:=D->DSt->DH->R DSt
variable {g:DG}
noncomputable def Gg (E:XK) (a:Wd) (r:R DSt) (Q:St->Hp->Prop):Prop:=match r with
 | .ok S G=>∀(b:Wd) (σ:St),Ext a b->Sim b G->RepS b S σ->Q σ b.H
 | .err x G=>XOk E a x G
 | .bad=>False
noncomputable def lG (K:PySem.W.Frag) (E:XK) (t:DG):TG:=λv σ H Q=>∃(a:Wd) (S:DSt) (G:DH) (d:D),a.K=K/\a.H=H/\Sim a G/\RepS a S σ/\Rep a d v/\Gg E a (t d S G) Q
noncomputable def QG (X:Cx) (E:XK) (tg:Expr) (t:DG):Prop:=PG X tg (lG X.K E t)
noncomputable abbrev DGs:=List D->DSt->DH->R DSt
noncomputable def lGs (K:PySem.W.Frag) (E:XK) (t:DGs):TGs:=λvs σ H Q=>∃(a:Wd) (S:DSt) (G:DH) (ds:List D),a.K=K/\a.H=H/\Sim a G/\RepS a S σ/\Reps a ds vs/\Gg E a (t ds S G) Q
noncomputable def QGs (X:Cx) (E:XK) (tg:List Expr) (t:DGs):Prop:=PGs X tg (lGs X.K E t)
noncomputable def gV (i:Nat):DG:=λd S G=>.ok (S.set i (some d)) G
noncomputable def Cg:DGs:=λds S G=>match ds with
 | []=>.ok S G
 | _=>.bad
noncomputable def Aq (t:DG) (u:DGs):DGs:=λds S G=>match ds with
 | d::r=>(t d S G).bind λS1 G1=>u r S1 G1
 | []=>.bad
noncomputable def Bw (n:Nat) (t:DGs):DG:=λd S G=>match d with
 | .tup ds=>if ds.length=n then t ds S G else .bad
 | _=>.bad
theorem Gg.imp {r:R DSt} {Q Q':St->Hp->Prop} (h:Gg E a r Q) (w:∀v H,Q v H->Q' v H):Gg E a r Q':=by
 cases r with
 | ok d G=>exact λb v x s q=>w _ _ (h b v x s q)
 | err e G=>exact h
 | bad=>exact h
theorem Gg.mono (x:Ext a b) {r:R DSt} {Q:St->Hp->Prop} (h:Gg E a r Q):Gg E b r Q:=by
 cases r with
 | ok d G=>exact λc v y s q=>h c v (x.trans y) s q
 | err e G=>exact XOk.mono (E:=E) (e:=e) (G:=G) x h
 | bad=>exact h
theorem ZOy {r:R DSt} {f:DSt->DH->R DSt} {Q:St->Hp->Prop} (h:Gg E a (r.bind f) Q):
  Gg E a r (λσ H=>∃(b:Wd) (S:DSt) (G:DH),b.H=H/\Ext a b/\Sim b G/\RepS b S σ/\r=.ok S G/\Gg E b (f S G) Q):=by
 cases r with
 | ok d G=>exact λb v x s q=>⟨b,d,G,rfl,x,s,q,rfl,Gg.mono x h⟩
 | err e G=>exact h
 | bad=>exact h
theorem ZFV {f:D->DH->R DSt} {Q:St->Hp->Prop} (h:Gg E a (r.bind f) Q):
  out E a r (λv H=>∃(b:Wd) (d:D) (G:DH),b.H=H/\Ext a b/\Sim b G/\Rep b d v/\r=.ok d G/\Gg E b (f d G) Q):=by
 cases r with
 | ok d G=>exact λb v x s q=>⟨b,d,G,rfl,x,s,q,rfl,Gg.mono x h⟩
 | err e G=>exact h
 | bad=>exact h
theorem ZEm {r:R DSt} {f:DSt->DH->SR} (h:Cw E a (r.toS f) W):
  Gg E a r (λσ H=>∃(b:Wd) (S:DSt) (G:DH),b.H=H/\Ext a b/\Sim b G/\RepS b S σ/\r=.ok S G/\Cw E b (f S G) W):=by
 cases r with
 | ok d G=>exact λb v x s q=>⟨b,d,G,rfl,x,s,q,rfl,Cw.mono x h⟩
 | err e G=>exact h
 | bad=>exact h
section
variable {X:Cx} {E:XK}
theorem _root_.L2.PG.mono {t t':TG} (h:PG X e t) (w:∀v σ H Q,t' v σ H Q->t v σ H Q):PG X e t':=λpins s σ H v u Q I r q=>h pins s σ H v u Q I r (w v σ H Q q)
theorem _root_.L2.PGs.mono {e:List Expr} {t t':TGs} (h:PGs X e t) (w:∀v σ H Q,t' v σ H Q->t v σ H Q):PGs X e t':=λpins s σ H v u Q I r q=>h pins s σ H v u Q I r (w v σ H Q q)
theorem Az (i:Nat) {pos:Pos} (hN:X.N.Nodup) (hi:X.N[i]? =some x:=by rfl) (hx:Loc X.env.scope x:=by first | exact Or.inl rfl | exact Or.inr rfl)
  (hf:X.fn x=true∨X.env.scope.names.lookup x=some .local:=by first | exact .inl rfl | exact .inr rfl | assumption):QG X E (.Name x pos) (gV i):=
 (ZJ0 hN hi hx hf).mono λv σ H Q h=>by obtain ⟨a,S,G,d,hk,rfl,s,r,q,h⟩:=h;exact h a _ (Ext.refl a) s (r.set i q)
theorem Gr:QGs X E [] Cg:=ZKe.mono λvs σ H Q h=>by
 obtain ⟨a,S,G,ds,hk,rfl,s,r,q,h⟩:=h;cases ds with
 | nil=>exact ⟨q,h a σ (Ext.refl a) s r⟩
 | cons d ds=>exact h.elim
theorem Cr {es:List Expr} {t:DG} {u:DGs} (h1:QG X E e t) (h2:QGs X E es u)
  (hs:(assignEach (e::es) X.env).map (·.2)=assign e X.env::(assignEach es X.env).map (·.2):=by rfl):QGs X E (e::es) (Aq t u):=(ZKz h1 h2 hs).mono λvs σ H Q h=>by
 obtain ⟨a,S,G,ds,hk,rfl,s,r,q,h⟩:=h;cases ds with
 | nil=>exact h.elim
 | cons d ds=>
  obtain ⟨v,rest,e1,q1,q2⟩:=q;refine ⟨v,rest,e1,a,S,G,d,hk,rfl,s,r,q1,(ZOy h).imp ?_⟩;rintro σ' _ ⟨b,S1,G1,rfl,x,s1,r1,_,h1⟩;exact ⟨b,S1,G1,ds,x.k.trans hk,rfl,s1,r1,q2.mono x,h1⟩
theorem Gm {es:List Expr} {k:Nat} {t:DGs} {n:Nat} {pos:Pos} (hc:X.calm=true) (h:QGs X E es t)
  (hn:(assignEach es X.env).length=n:=by rfl) (hst:(assignEach es X.env).findIdx? (·.1)=none:=by rfl):QG X E (.Tuple es k pos) (Bw n t):=(ZLw hc h hn hst).mono λv σ H Q h=>by
 obtain ⟨a,S,G,d,hk,rfl,s,r,q,h⟩:=h;cases d with
 | tup ds=>
  obtain ⟨p,vs,e,h1,r1⟩:=q;unfold Bw at h;dsimp only at h;split at h
  ·rename_i hl;exact ⟨p,vs,e,by rw [<-hk];exact h1,by rw [<-r1.length];exact hl,a,S,G,ds,hk,rfl,s,r,r1,h⟩
  ·exact h.elim
 | _=>exact h.elim
noncomputable def Mp (o i v:D) (G:DH):R D:=match o,i with
 | .ref p,.int k=>match G[p]? with
  | some (.lst xs)=>match ixN xs.length k with
   | some j=>.ok .non (G.set p (.lst (xs.set j v)))
   | none=>.bad
  | _=>.bad
 | _,_=>.bad
noncomputable def gIx (to ti:DE):DG:=λv S G=>(to S G).bind λo G1=>(ti S G1).bind λi G2=>(Mp o i v G2).bind λ_ G3=>.ok S G3
theorem ZBc {vs':List V} {ds':List D} (s:Sim a G) (hi:i < a.n) (h:a.H (a.m i)=some (.lst vs)) (r:Reps a ds' vs'):
  Ext a (a.put (a.m i) (.lst vs'))/\Sim (a.put (a.m i) (.lst vs')) (G.set i (.lst ds')):=⟨Ext.wr h,s.wr hi h (r.mono (Ext.wr h))⟩
theorem Xy {o i:Expr} {to ti:DE} {pos:Pos} (ho:QE X E o to) (hi:QE X E i ti)
  (ha:∀v,assign (.Subscript o i pos) X.env v=(do
   let ov<-holding [v] (eval o X.env);let iv<-holding [v,ov] (eval i X.env)
   standAt pos
   holding [v,ov,iv] (setItem ov iv v)
   release [v,ov,iv] []):=by intro _;rfl):QG X E (.Subscript o i pos) (gIx to ti):=(ZN7 ho hi set_list ha).mono λv σ H Q h=>by
 obtain ⟨a,S,G,d,hk,rfl,s,r,q,h⟩:=h;refine ⟨a,S,G,hk,rfl,s,r,(ZFV h).imp ?_⟩;rintro ov _ ⟨b,e,G1,rfl,x,s1,q1,_,h1⟩;refine ⟨b,S,G1,x.k.trans hk,rfl,s1,r.mono x,(ZFV h1).imp ?_⟩;rintro iv _ ⟨c,f,G2,rfl,y,s2,q2,_,h2⟩;cases e with
 | ref p=>
  cases f with
  | int k=>
   unfold Mp at h2;dsimp only at h2;split at h2
   ·rename_i xs hx;split at h2
    ·rename_i j hj;obtain ⟨vs,e1,r1⟩:=s2.lst hx;have q1':=q1.mono y;have rv:=(q.mono x).mono y;obtain ⟨x3,s3⟩:=ZBc s2 q1'.1 e1 (r1.set rv j);refine ⟨c.m p,vs,k,j,q1'.2,q2,e1,by rw [<-r1.length];exact hj,?_⟩;exact h2 _ σ x3 s3 (((r.mono x).mono y).mono x3)
    ·exact h2.elim
   ·exact h2.elim
  | _=>exact h2.elim
 | _=>exact h2.elim
variable {st:Stmt} {rest:List Stmt} {t u:DS} {e:Expr} {te:DE} {pos:Pos}
noncomputable def sNx:DS:=λS G=>.nx S G
noncomputable def Ah (t u:DS):DS:=λS G=>match t S G with
 | .nx S1 G1=>u S1 G1
 | r=>r
noncomputable def sEx (te:DE):DS:=λS G=>(te S G).toS λ_ G1=>.nx S G1
noncomputable def sRt (te:DE):DS:=λS G=>(te S G).toS λd G1=>.rt d G1
noncomputable def sIf (c:DB) (t u:DS):DS:=λS G=>(c S G).toS λk G1=>if k=true then t S G1 else u S G1
noncomputable def sAs (te:DE) (g:DG):DS:=λS G=>(te S G).toS λd G1=>(g d S G1).toS λS2 G2=>.nx S2 G2
noncomputable def sAu (i:Nat) (te:DE) (f:D->D->DH->R D):DS:=λS G=>match S[i]? with
 | some (some x)=>(te S G).toS λy G1=>(f x y G1).toS λz G2=>.nx (S.set i (some z)) G2
 | _=>.bad
theorem Cj:QSs X E [] sNx:=ZH3.mono λW σ H h=>by obtain ⟨a,S,G,hk,rfl,s,r,h⟩:=h;exact h a σ (Ext.refl a) s r
theorem Cw.nxOf {t:DS} (hk:a.K=K) (h:Cw E a (Ah t u S G) W):Cw E a (t S G) {W with nx:=lS K E u W}:=by
 unfold Ah at h
 revert h
 cases t S G <;> intro h
 ·exact λb σ x s r=>⟨b,_,_,x.k.trans hk,rfl,s,r,Cw.mono x h⟩
 all_goals exact h
theorem Ai (h1:QS X E st t) (h2:QSs X E rest u):QSs X E (st::rest) (Ah t u):=(ZOj h1 h2).mono λW σ H h=>by obtain ⟨a,S,G,hk,rfl,s,r,h⟩:=h;exact ⟨a,S,G,hk,rfl,s,r,h.nxOf hk⟩
theorem An (h1:QS X E st t):QSs X E [st] t:=ZOU h1
theorem Ew (he:QE X E e te) (hs:swapsWith e none pos.line X.env=pure false:=by rfl):QS X E (.Expr e pos) (sEx te):=(ZOQ he hs).mono λW σ H h=>by obtain ⟨a,S,G,hk,rfl,s,r,h⟩:=h;refine ⟨a,S,G,hk,rfl,s,r,(Iw h).imp ?_⟩;rintro v _ ⟨b,d,G1,rfl,x,s1,q,_,h1⟩;exact h1 b σ (Ext.refl b) s1 (r.mono x)
theorem Bj (he:QE X E e te):QS X E (.Return (some e) pos) (sRt te):=(ZIY he).mono λW σ H h=>by obtain ⟨a,S,G,hk,rfl,s,r,h⟩:=h;refine ⟨a,S,G,hk,rfl,s,r,(Iw h).imp ?_⟩;rintro v _ ⟨b,d,G1,rfl,x,s1,q,_,h1⟩;exact h1 b v (Ext.refl b) s1 q
theorem Bu {c:Expr} {tc:DB} {a b:List Stmt} (hc:QT X E c tc) (ha:QSs X E a t) (hb:QSs X E b u):QS X E (.If c a b pos) (sIf tc t u):=(ZOk hc ha hb).mono λW σ H h=>by
 obtain ⟨a,S,G,hk,rfl,s,r,h⟩:=h;refine ⟨a,S,G,hk,rfl,s,r,(ZFY h).imp ?_⟩;rintro k _ ⟨b,G1,rfl,x,s1,_,h1⟩;cases k with
 | true=>exact ⟨b,S,G1,x.k.trans hk,rfl,s1,r.mono x,h1⟩
 | false=>exact ⟨b,S,G1,x.k.trans hk,rfl,s1,r.mono x,h1⟩
theorem ZK7 (h:lS K E (sAs te g) W σ H):Za (lE K E te) (lG K E g) W σ H:=by obtain ⟨a,S,G,hk,rfl,s,r,h⟩:=h;refine ⟨a,S,G,hk,rfl,s,r,(Iw h).imp ?_⟩;rintro v _ ⟨b,d,G1,rfl,x,s1,q,_,h1⟩;refine ⟨b,S,G1,d,x.k.trans hk,rfl,s1,r.mono x,q,(ZEm h1).imp ?_⟩;rintro σ' _ ⟨c,S2,G2,rfl,y,s2,r2,_,h2⟩;exact h2 c σ' (Ext.refl c) s2 r2
theorem Ms (he:QE X E e te) (hg:QG X E tg g) (hs:swapsWithSole [tg] e pos.line X.env=pure false:=by rfl) (hw:swappedStores [tg] e X.env=pure none:=by rfl)
  (h1:(assignEach [tg] X.env).map (·.2)= [assign tg X.env]:=by rfl):QS X E (.Assign [tg] e pos) (sAs te g):=(ZPk he hg hs hw h1).mono λ_ _ _ h=>ZK7 h
theorem Ao (i:Nat) {pos':Pos} (hN:X.N.Nodup) (he:QE X E e te) (hi:X.N[i]? =some x:=by rfl) (hx:Loc X.env.scope x:=by first | exact Or.inl rfl | exact Or.inr rfl) (hs:swapsWith e (some (.Name x pos')) pos.line X.env=pure false:=by rfl)
  (hf:X.fn x=true∨X.env.scope.names.lookup x=some .local:=by first | exact .inl rfl | exact .inr rfl | assumption):QS X E (.Assign [.Name x pos'] e pos) (sAs te (gV i)):=
 (ZMF hN hi hx he hs hf).mono λW σ H h=>by obtain ⟨a,S,G,hk,rfl,s,r,h⟩:=h;refine ⟨a,S,G,hk,rfl,s,r,(Iw h).imp ?_⟩;rintro v _ ⟨b,d,G1,rfl,x,s1,q,_,h1⟩;exact h1 b _ (Ext.refl b) s1 ((r.mono x).set i q)
theorem ZGp (i:Nat) {op:Operator} {pos':Pos} (hN:X.N.Nodup) (he:QE X E e te) (ho:OpR X (inplaceOp op) (lR2 X.K E f)) (hi:X.N[i]? =some x:=by rfl) (hx:Loc X.env.scope x:=by first | exact Or.inl rfl | exact Or.inr rfl)
  (hf:X.fn x=true∨X.env.scope.names.lookup x=some .local:=by first | exact .inl rfl | exact .inr rfl | assumption):QS X E (.AugAssign (.Name x pos') op e pos) (sAu i te f):=
 (ZLW (ti:=lR2 X.K E f) hN hi hx he ho hf).mono λW σ H h=>by
  obtain ⟨a,S,G,hk,rfl,s,r,h⟩:=h;unfold sAu at h;split at h
  ·rename_i d hd;obtain ⟨v,e1,q⟩:=r.get i d hd;refine ⟨v,e1,a,S,G,hk,rfl,s,r,(Iw h).imp ?_⟩;rintro w _ ⟨b,d1,G1,rfl,x,s1,q1,_,h1⟩;refine ⟨b,G1,d,d1,x.k.trans hk,rfl,s1,q.mono x,q1,(Iw h1).imp ?_⟩;rintro z _ ⟨c,d2,G2,rfl,y,s2,q2,_,h2⟩;exact h2 c _ (Ext.refl c) s2 (((r.mono x).mono y).set i q2)
  ·exact h.elim
noncomputable def Lq:D->D->DH->R D
 | .int i,.int j,G=>.ok (.int (i + j)) G
 | .str i,.str j,G=>if i.length + j.length<=1000000 then .ok (.str (i++j)) G else .bad
 | _,_,_=>.bad
theorem Tt:OpR X (inplaceOp .Add) (lR2 X.K E Lq):=Hx (OpR.or (r:=ipI λi j=>i + j) ZLS ZPV) λa G d e x y Q hk s rd re q=>by
 cases d <;> cases e <;> first
  | exact q.elim
  | exact .inl ⟨_,_,rd,re,q a _ (Ext.refl a) s rfl⟩
  | (
    unfold Lq at q;dsimp only at q;split at q
    ·rename_i hl;exact .inr ⟨_,_,rd,re,Nat.le_trans hl size6,q a _ (Ext.refl a) s rfl⟩
    ·exact q.elim)
theorem ZPE:OpR X (inplaceOp .Sub) (lR2 X.K E Ez):=Hx (r:=ipI λi j=>i - j) ZOY λa G d e x y Q hk s rd re q=>by
 cases d <;> cases e <;> first
  | exact q.elim
  | exact ⟨_,_,rd,re,q a _ (Ext.refl a) s rfl⟩
end
noncomputable def aft (r:SR) (k:DSt->DH->SR):SR:=match r with
 | .nx S G=>k S G
 | .ct S G=>k S G
 | .bk S G=>.nx S G
 | r=>r
noncomputable def Bh (g:DG) (b:DS):List D->DS
 | [],S,G=>.nx S G
 | x::xs,S,G=>(g x S G).toS λS1 G1=>aft (b S1 G1) (Bh g b xs)
noncomputable def forM (i:Nat) (g:DG) (b:DS):Nat->Nat->DS
 | 0,j,S,G=>match G[i]? with
  | some (.lst xs)=>if xs.length<=j then .nx S G else .bad
  | _=>.bad
 | k + 1,j,S,G=>match G[i]? with
  | some (.lst xs)=>match xs[j]? with
   | some x=>(g x S G).toS λS1 G1=>aft (b S1 G1) (forM i g b k (j + 1))
   | none=>.nx S G
  | _=>.bad
noncomputable def Ei (f:Nat->DH->Option (Option D)) (g:DG) (b:DS):Nat->Nat->DS
 | 0,j,S,G=>match f j G with
  | some none=>.nx S G
  | _=>.bad
 | k + 1,j,S,G=>match f j G with
  | some (some x)=>(g x S G).toS λS1 G1=>aft (b S1 G1) (Ei f g b k (j + 1))
  | some none=>.nx S G
  | none=>.bad
inductive ItD where
 | pure (xs:List D)
 | mt (i:Nat)
 | fn (n:Nat) (f:Nat->DH->Option (Option D))
noncomputable abbrev DI:=DSt->DH->R ItD
noncomputable def Du (it:DI) (g:DG) (b:DS):DS:=λS G=>(it S G).toS λJ G1=>match J with
 | .pure xs=>Bh g b xs S G1
 | .mt i=>match G1[i]? with
  | some (.lst xs)=>forM i g b xs.length 0 S G1
  | _=>.bad
 | .fn n f=>Ei f g b n 0 S G1
noncomputable def RepI (a:Wd):ItD->It->Prop
 | .pure xs,J=>∃vs:List V,Reps a xs vs/\∀b:Wd,Ext a b->∀i,(∀v,vs[i]? =some v->J.go i b.H/\∀x H',J.yld i b.H x H'->x=v/\H'=b.H)/\(vs.length<=i->J.stop i b.H)
 | .mt k,J=>k < a.n/\∀b:Wd,Ext a b->∀vs,b.H (b.m k)=some (.lst vs)->∀i,(∀v,vs[i]? =some v->J.go i b.H/\∀x H',J.yld i b.H x H'->x=v/\H'=b.H)/\(vs.length<=i->J.stop i b.H)
 | .fn _ f,J=>∀b:Wd,Ext a b->∀G,Sim b G->∀i,(∀d,f i G=some (some d)->J.go i b.H/\∀x H',J.yld i b.H x H'->∃c:Wd,c.H=H'/\Ext b c/\Sim c G/\Rep c d x)/\(f i G=some none->J.stop i b.H)
noncomputable def outI (E:XK) (a:Wd) (r:R ItD) (Q:It->Hp->Prop):Prop:=match r with
 | .ok J G=>∀(b:Wd) (JJ:It),Ext a b->Sim b G->RepI b J JJ->Q JJ b.H
 | .err x G=>XOk E a x G
 | .bad=>False
noncomputable def lI (K:PySem.W.Frag) (E:XK) (t:DI):TI:=λσ H Q=>∃(a:Wd) (S:DSt) (G:DH),a.K=K/\a.H=H/\Sim a G/\RepS a S σ/\outI E a (t S G) Q
noncomputable def QI (X:Cx) (E:XK) (tg iter:Expr) (t:DI):Prop:=PI X tg iter (lI X.K E t)
theorem outI.imp {r:R ItD} {Q Q':It->Hp->Prop} (h:outI E a r Q) (w:∀v H,Q v H->Q' v H):outI E a r Q':=by
 cases r with
 | ok d G=>exact λb v x s q=>w _ _ (h b v x s q)
 | err e G=>exact h
 | bad=>exact h
theorem ZN2 {r:R ItD} {f:ItD->DH->SR} (h:Cw E a (r.toS f) W):
  outI E a r (λJ H=>∃(b:Wd) (d:ItD) (G:DH),b.H=H/\Ext a b/\Sim b G/\RepI b d J/\r=.ok d G/\Cw E b (f d G) W):=by
 cases r with
 | ok d G=>exact λb v x s q=>⟨b,d,G,rfl,x,s,q,rfl,Cw.mono x h⟩
 | err e G=>exact h
 | bad=>exact h
theorem ZHj {r:SR} {k:DSt->DH->SR} (h:Cw E a (aft r k) W):
  Cw E a r {W with
            nx:=λσ H=>∃(b:Wd) (S:DSt) (G:DH),b.H=H/\Ext a b/\Sim b G/\RepS b S σ/\Cw E b (k S G) W,
            ct:=λσ H=>∃(b:Wd) (S:DSt) (G:DH),b.H=H/\Ext a b/\Sim b G/\RepS b S σ/\Cw E b (k S G) W,bk:=W.nx}:=by
 cases r with
 | nx S G=>exact λb σ x s q=>⟨b,S,G,rfl,x,s,q,Cw.mono x h⟩
 | ct S G=>exact λb σ x s q=>⟨b,S,G,rfl,x,s,q,Cw.mono x h⟩
 | bk S G=>exact h
 | rt d G=>exact h
 | err x G=>exact h
 | bad=>exact h
noncomputable def mtF (i j:Nat) (G:DH):Option (Option D):=match G[i]? with
 | some (.lst xs)=>some xs[j]?
 | _=>none
theorem ZFO {J:It} {n:Nat} (r:RepI a (.pure xs) J):RepI a (.fn n λj _=>some xs[j]?) J:=by
 obtain ⟨vs,rv,h⟩:=r;refine λb x G sm i=>⟨λd e=> ?_,λe=> ?_⟩
 ·obtain ⟨v,ev,q⟩:=rv.get (Option.some.inj e);obtain ⟨h1,h2⟩:=(h b x i).1 v ev;refine ⟨h1,λy H' hy=> ?_⟩;obtain ⟨rfl,rfl⟩:=h2 y H' hy;exact ⟨b,rfl,Ext.refl b,sm,q.mono x⟩
 ·exact (h b x i).2 (by rw [<-rv.length];exact List.getElem?_eq_none_iff.mp (Option.some.inj e))
theorem ZF9 {J:It} {n:Nat} (r:RepI a (.mt k) J):RepI a (.fn n (mtF k)) J:=by
 obtain ⟨hk,h⟩:=r;refine λb x G sm i=> ?_
 unfold mtF;cases hG:G[k]? with
 | none=>exact ⟨λd e=>(by cases e),λe=>(by cases e)⟩
 | some o=>
  cases o with
  | lst xs=>
   obtain ⟨vs,e1,rv⟩:=sm.lst hG;refine ⟨λd e=> ?_,λe=> ?_⟩
   ·obtain ⟨v,ev,q⟩:=rv.get (Option.some.inj e);obtain ⟨h1,h2⟩:=(h b x vs e1 i).1 v ev;refine ⟨h1,λy H' hy=> ?_⟩;obtain ⟨rfl,rfl⟩:=h2 y H' hy;exact ⟨b,rfl,Ext.refl b,sm,q⟩
   ·exact (h b x vs e1 i).2 (by rw [<-rv.length];exact List.getElem?_eq_none_iff.mp (Option.some.inj e))
  | _=>exact ⟨λd e=>(by cases e),λe=>(by cases e)⟩
theorem ZFl {b:DS} :∀(n j:Nat),j + n=xs.length->Bh g b (xs.drop j)=Ei (λj _=>some xs[j]?) g b n j
 | 0,j,h=>by
  funext S G;rw [List.drop_of_length_le (by lia)]
  show SR.nx S G=(match some xs[j]? with | some none=>SR.nx S G | _=>.bad)
  rw [List.getElem?_eq_none (by lia)]
 | n + 1,j,h=>by
  funext S G;have hj:j < xs.length:=by lia
  rw [List.drop_eq_getElem_cons hj]
  show (g xs[j] S G).toS (λS1 G1=>aft (b S1 G1) (Bh g b (xs.drop (j + 1))))=(match some xs[j]? with | some (some x)=>(g x S G).toS (λS1 G1=>aft (b S1 G1) (Ei (λj _=>some xs[j]?) g b n (j + 1))) | some none=>SR.nx S G | none=>.bad)
  rw [List.getElem?_eq_getElem hj,ZFl n (j + 1) (by lia)]
theorem ZEI {b:DS} :∀(n j:Nat),forM i g b n j=Ei (mtF i) g b n j
 | 0,j=>by
  funext S G;unfold forM Ei mtF;cases G[i]? with
  | none=>rfl
  | some o=>
   cases o with
   | lst xs=>
    dsimp only;by_cases hj:j < xs.length
    ·rw [if_neg (by lia),List.getElem?_eq_getElem hj]
    ·rw [if_pos (by lia),List.getElem?_eq_none (by lia)]
   | _=>rfl
 | n + 1,j=>by
  funext S G;unfold forM Ei;rw [ZEI n (j + 1)];unfold mtF;cases G[i]? with
  | none=>rfl
  | some o=>
   cases o with
   | lst xs=>
    dsimp only
    cases xs[j]? <;> rfl
   | _=>rfl
section
variable {X:Cx} {E:XK} {tg iter:Expr} {pos:Pos}
theorem ZJ9 {it:DI} {b:DS} (h:lS K E (Du it g b) W σ H):tFor (lI K E it) (lG K E g) (lS K E b) W σ H:=by
 obtain ⟨a,S,G,hk,rfl,s,r,h⟩:=h;refine ⟨a,S,G,hk,rfl,s,r,(ZN2 h).imp ?_⟩;rintro J _ ⟨a1,d,G1,rfl,x1,s1,q1,_,h1⟩;have k1:a1.K=K:=x1.k.trans hk
 suffices fnc:∃n f,RepI a1 (.fn n f) J/\Cw E a1 (Ei f g b n 0 S G1) W by
  obtain ⟨n,f,q1,h1⟩:=fnc;have walk:∀b:Wd,Ext a1 b->∀G,Sim b G->∀i,(∀d,f i G=some (some d)->J.go i b.H/\∀x H',J.yld i b.H x H'->∃c:Wd,c.H=H'/\Ext b c/\Sim c G/\Rep c d x)/\(f i G=some none->J.stop i b.H):=q1;refine ⟨λi m σ H=>∃(c:Wd) (S:DSt) (G:DH),c.H=H/\Ext a1 c/\Sim c G/\RepS c S σ/\Cw E c (Ei f g b m i S G) W,⟨_,a1,S,G1,rfl,Ext.refl _,s1,r.mono x1,h1⟩,?_⟩;rintro i m σ2 _ ⟨c,S2,G2,rfl,x2,s2,r2,h2⟩
  cases m with
  | zero=>
   unfold Ei at h2;split at h2
   ·rename_i hf;exact .inl ⟨(walk c x2 G2 s2 i).2 hf,h2 c σ2 (Ext.refl c) s2 r2⟩
   ·exact h2.elim
  | succ m=>
   unfold Ei at h2;split at h2
   ·rename_i d hf;obtain ⟨go,yl⟩:=(walk c x2 G2 s2 i).1 d hf;refine .inr ⟨go,λσ' H'=>∃(c:Wd) (S:DSt) (G:DH),c.H=H'/\Ext a1 c/\Sim c G/\RepS c S σ'/\Cw E c (Ei f g b m (i + 1) S G) W,λσ' H' z=>⟨m,Nat.lt_succ_self _,z⟩,λw H' y=> ?_⟩;obtain ⟨cc,rfl,xx,ss,rd⟩:=yl w H' y;refine ⟨cc,S2,G2,d,xx.k.trans (x2.k.trans k1),rfl,ss,r2.mono xx,rd,(ZEm (Cw.mono xx h2)).imp ?_⟩;rintro σ3 _ ⟨c3,S3,G3,rfl,x3,s3,r3,_,h3⟩
    have fin:=ZHj h3;refine ⟨c3,S3,G3,x3.k.trans (xx.k.trans (x2.k.trans k1)),rfl,s3,r3,?_⟩
    revert fin
    cases b S3 G3 with
    | nx S4 G4=>
      intro fin c4 σ4 x4 s4 q4;obtain ⟨c5,S5,G5,hh,x5,s5,r5,h5⟩:=fin c4 σ4 x4 s4 q4;exact ⟨c5,S5,G5,hh,x2.trans (xx.trans (x3.trans x5)),s5,r5,h5⟩
    | ct S4 G4=>
      intro fin c4 σ4 x4 s4 q4;obtain ⟨c5,S5,G5,hh,x5,s5,r5,h5⟩:=fin c4 σ4 x4 s4 q4;exact ⟨c5,S5,G5,hh,x2.trans (xx.trans (x3.trans x5)),s5,r5,h5⟩
    | bk S4 G4=>exact λfin=>fin
    | rt S4 G4=>exact λfin=>fin
    | err S4 G4=>exact λfin=>fin
    | bad=>exact λfin=>fin
   ·rename_i hf;exact .inl ⟨(walk c x2 G2 s2 i).2 hf,h2 c σ2 (Ext.refl c) s2 r2⟩
   ·exact h2.elim
 cases d with
 | pure xs=>
  have h1':Cw E a1 (Bh g b (xs.drop 0) S G1) W:=h1;rw [ZFl xs.length 0 (by lia)] at h1';exact ⟨_,_,ZFO q1,h1'⟩
 | mt k=>
  dsimp only at h1;split at h1
  ·rw [ZEI] at h1;exact ⟨_,_,ZF9 q1,h1⟩
  ·exact h1.elim
 | fn n f=>exact ⟨n,f,q1,h1⟩
theorem Eo {body:List Stmt} {it:DI} {b:DS} (hp:PassesOwn (model X.prog X.w) X.A X.env X.xe) (hc:X.calm=true) (hi:QI X E tg iter it) (hg:QG X E tg g) (hb:QSs X E body b)
  (hs:∀x,foldedSetIterable iter X.env x=pure x:=by intro _;rfl):QS X E (.For tg iter body [] pos) (Du it g b):=(ZJt hp hc hi hg hb hs).mono λ_ _ _ h=>ZJ9 h
theorem _root_.L2.PI.mono {t t':TI} (h:PI X tg iter t) (w:∀σ H Q,t' σ H Q->t σ H Q):PI X tg iter t':=λpins s σ H Q I q=>h pins s σ H Q I (w σ H Q q)
noncomputable def sgn (c:Nat):D:=.str ⟨#[c]⟩
noncomputable def signs (x:Str):List D:=x.cps.toList.map sgn
noncomputable def Its (x:Str):It:=⟨λi _=>i < x.cps.size,λi H v H'=>H'=H/\∃c,x.cps[i]? =some c/\v=.str ⟨#[c]⟩,λi _=>x.cps.size<=i⟩
theorem ZPT (it:Addr) (x:Str) (t:Tok):Turn P w K tg (Its x) [it] it (λi h=>h.IsStrIter it "str_ascii_iterator" x t i) where
 mem:=by simp
 obj:=λi h st b hb=>by
  have e:b=it:=by simpa using hb
  subst e;obtain ⟨o,e,c,d⟩:=st;exact ⟨o,e,λv z=>by rw [d] at z;cases z⟩
 keep:=λi h h' st k=>let ⟨o,ho,r⟩:=st;⟨o,k it (by simp) o ho,r⟩
 item:=by
  intro X hP hw hK hc i pins s σ H E I hf st hg;subst hP hw hK;obtain ⟨f0,f1,f2,f3,f4,f5⟩:=hf it (by simp);have hi:i < x.cps.size:=hg;refine wpAny_pyNext_ascii_item st (c:=x.cps[i]) (by simp [hi]) λh' st' sb=> ?_
  have I1:Inv X pins σ H {s with heap:=h',toks:=s.toks + 1}:=I.turned (λb o hb e=>(sb.2 b hb).trans e) f0 f1 f3 f4 f5;obtain ⟨o,e,c,d⟩:=id st';exact ⟨_,rfl,Qk (s:={s with heap:=h',toks:=s.toks + 1}) e c d (by decide) ⟨.str ⟨#[x.cps[i]]⟩,H,I1,⟨_,rfl⟩,⟨rfl,_,by simp [hi],rfl⟩,st',λb hb=>(hf b hb).1⟩⟩
 done:=by intro X hP hw hK hc i pins s σ H E I hf st hg;subst hP hw hK;obtain ⟨f0,f1,f2,f3,f4,f5⟩:=hf it (by simp);have hi:x.cps.size<=i:=hg;exact wpAny_pyNext_ascii_end (I.ok.hd hc) st (by simp [hi]) λh' eb=>⟨rfl,I.turned (t':=s.toks) (λb o hb e=>eb b o hb e) f0 f1 f3 f4 f5⟩
 self:=λ_ _ _ _ _ st h=>wpAny_pyIter_striter_ascii st h
theorem ZLp (it:Addr) (x:Str) (t:Tok):Turn P w K tg (Its x) [it] it (λi h=>h.IsStrIter it "str_iterator" x t i) where
 mem:=by simp
 obj:=λi h st b hb=>by
  have e:b=it:=by simpa using hb
  subst e;obtain ⟨o,e,c,d⟩:=st;exact ⟨o,e,λv z=>by rw [d] at z;cases z⟩
 keep:=λi h h' st k=>let ⟨o,ho,r⟩:=st;⟨o,k it (by simp) o ho,r⟩
 item:=by
  intro X hP hw hK hc i pins s σ H E I hf st hg;subst hP hw hK;obtain ⟨f0,f1,f2,f3,f4,f5⟩:=hf it (by simp);have hi:i < x.cps.size:=hg;refine wpAny_pyNext_wide_item st (c:=x.cps[i]) (by simp [hi]) λh' st' sb=> ?_
  have I1:Inv X pins σ H {s with heap:=h',toks:=s.toks + 1}:=I.turned (λb o hb e=>(sb.2 b hb).trans e) f0 f1 f3 f4 f5;obtain ⟨o,e,c,d⟩:=id st';exact ⟨_,rfl,Qk (s:={s with heap:=h',toks:=s.toks + 1}) e c d (by decide) ⟨.str ⟨#[x.cps[i]]⟩,H,I1,⟨_,rfl⟩,⟨rfl,_,by simp [hi],rfl⟩,st',λb hb=>(hf b hb).1⟩⟩
 done:=by intro X hP hw hK hc i pins s σ H E I hf st hg;subst hP hw hK;obtain ⟨f0,f1,f2,f3,f4,f5⟩:=hf it (by simp);have hi:x.cps.size<=i:=hg;exact wpAny_pyNext_wide_end (I.ok.hd hc) st (by simp [hi]) λh' eb=>⟨rfl,I.turned (t':=s.toks) (λb o hb e=>eb b o hb e) f0 f1 f3 f4 f5⟩
 self:=λ_ _ _ _ _ st h=>wpAny_pyIter_striter_wide st h
noncomputable def iStr (tl:TE):TI:=λσ H R=>tl σ H λx H1=>∃z,x=.str z/\R (Its z) H1
theorem ZMS {l:Expr} {tl:TE} (hl:PE X l tl):PI X tg l (iStr tl):=by
 intro pins s σ H R I h;refine thn (hl pins s σ H _ I h) λv s1 ⟨x,H1,I1,r1,q1⟩=> ?_
 obtain ⟨z,e,q⟩:=q1;subst e;obtain ⟨t,rfl⟩:=r1;have fp:∀b∈ [s1.heap.objs.size],FpOk X pins H1 b:=λb hb=>by
  have e:b=s1.heap.objs.size:=by simpa using hb
  subst e;exact I1.K1 (Nat.le_refl _) (I1.hok.fresh (Nat.le_refl _))
 cases ha:z.cps.all (· < 128)
 ·refine wpAny_pyIter_wide ha ?_;exact ⟨s1.heap.objs.size,[s1.heap.objs.size],_,_,H1,rfl,I1.kept (t':=s1.toks) λb o e=>Heap.get?_push_of_some _ e,ZLp _ z t,⟨_,Heap.get?_push_size _ rfl,rfl,rfl⟩,fp,q⟩
 ·refine wpAny_pyIter_ascii ha ?_;exact ⟨s1.heap.objs.size,[s1.heap.objs.size],_,_,H1,rfl,I1.kept (t':=s1.toks) λb o e=>Heap.get?_push_of_some _ e,ZPT _ z t,⟨_,Heap.get?_push_size _ rfl,rfl,rfl⟩,fp,q⟩
theorem Reps.signs (x:Str):Reps a (signs x) (x.cps.toList.map λc=>V.str ⟨#[c]⟩):=by
 unfold DL.signs
 induction x.cps.toList with
 | nil=>exact rfl
 | cons c r ih=>exact ⟨_,_,rfl,rfl,ih⟩
noncomputable def I8:D->DH->R ItD
 | .tup xs,G=>.ok (.pure xs) G
 | .str x,G=>.ok (.pure (signs x)) G
 | .fl xs,G=>.ok (.pure xs) G
 | .ref i,G=>match G[i]? with
  | some (.lst _)=>.ok (.mt i) G
  | _=>.bad
 | _,_=>.bad
noncomputable def Ep (te:DE):DI:=λS G=>(te S G).bind I8
theorem Eu (he:QE X E iter te):QI X E tg iter (Ep te):=by
 intro pins s σ H R I h;obtain ⟨a,S,G,hk,rfl,sm,r,h⟩:=h;cases ht:te S G with
 | bad=>
  have h':outI E a ((te S G).bind I8) R:=h;rw [ht] at h';exact h'.elim
 | err e G1=>
  have h':outI E a ((te S G).bind I8) R:=h;rw [ht] at h';refine Zo (tg:=tg) he pins s σ a.H R I ⟨a,S,G,hk,rfl,sm,r,?_⟩;rw [ht];exact h'
 | ok d G1=>
  have h':outI E a ((te S G).bind I8) R:=h;rw [ht] at h';cases d with
  | tup xs=>
   refine ZOn (tg:=tg) he pins s σ a.H R I ⟨a,S,G,hk,rfl,sm,r,?_⟩;rw [ht];rintro b v x sb ⟨p,vs,rfl,hq,rv⟩;have hq':SqT X.K b.H p vs:=by rw [<-hk,<-x.k];exact hq
   refine ⟨p,rfl,⟨vs,hq'⟩,h' b _ x sb ⟨vs,rv,λc y i=>⟨λv hv=>⟨⟨vs,v,?_,hv⟩,λw H' z=> ?_⟩,λhl=>⟨vs,?_,hl⟩⟩⟩⟩
   ·have:=y.sqT hq;rw [y.k,x.k,hk] at this;exact this
   ·have:=y.sqT hq;rw [y.k,x.k,hk] at this;exact ⟨Option.some.inj ((z.2 vs this).symm.trans hv),z.1⟩
   ·have:=y.sqT hq;rw [y.k,x.k,hk] at this;exact this
  | fl xs=>
   refine Zo (tg:=tg) he pins s σ a.H R I ⟨a,S,G,hk,rfl,sm,r,?_⟩;rw [ht];rintro b v x sb ⟨p,vs,rfl,hq,rv⟩;have hq':SqL X.K b.H p vs:=by rw [<-hk,<-x.k];exact hq.sq
   refine ⟨p,rfl,⟨vs,hq'⟩,h' b _ x sb ⟨vs,rv,λc y i=>⟨λv hv=>⟨⟨vs,v,?_,hv⟩,λw H' z=> ?_⟩,λhl=>⟨vs,?_,hl⟩⟩⟩⟩
   ·have:=(y.fzL hq).sq;rw [y.k,x.k,hk] at this;exact this
   ·have:=(y.fzL hq).sq;rw [y.k,x.k,hk] at this;exact ⟨Option.some.inj ((z.2 vs this).symm.trans hv),z.1⟩
   ·have:=(y.fzL hq).sq;rw [y.k,x.k,hk] at this;exact this
  | ref k=>
   have h2:outI E a (I8 (.ref k) G1) R:=h';unfold I8 at h2;dsimp only at h2;split at h2
   ·rename_i xs hx;refine Zo (tg:=tg) he pins s σ a.H R I ⟨a,S,G,hk,rfl,sm,r,?_⟩;rw [ht];rintro b v x sb ⟨hkn,rfl⟩;obtain ⟨vs,hx,_⟩:=sb.lst hx;refine ⟨b.m k,rfl,⟨vs,.of hx⟩,h2 b _ x sb ⟨hkn,λc y us hu i=> ?_⟩⟩;rw [y.m k hkn] at hu;exact ⟨λv hv=>⟨⟨us,v,.of hu,hv⟩,λw H' z=>⟨Option.some.inj ((z.2 us (.of hu)).symm.trans hv),z.1⟩⟩,λhl=>⟨us,.of hu,hl⟩⟩
   ·exact h2.elim
  | str z=>
   refine ZMS (tg:=tg) he pins s σ a.H R I ⟨a,S,G,hk,rfl,sm,r,?_⟩;rw [ht];intro b v x sb rv
   cases (show v=V.str z from rv)
   refine ⟨z,rfl,h' b _ x sb ⟨_,Reps.signs z,λc y i=>⟨λv hv=> ?_,λhl=> ?_⟩⟩⟩
   ·rw [List.getElem?_map,Option.map_eq_some_iff] at hv;obtain ⟨k,hk1,rfl⟩:=hv;have hk2:z.cps[i]? =some k:=by rw [<-Array.getElem?_toList];exact hk1
    refine ⟨(Array.getElem?_eq_some_iff.mp hk2).1,λw H' q=> ?_⟩;obtain ⟨e1,k',e2,e3⟩:=q;rw [hk2] at e2;cases e2;exact ⟨e3,e1⟩
   ·rw [List.length_map,Array.length_toList] at hl;exact hl
  | _=>exact h'.elim
end
noncomputable def Cq (lo:Int) (n:Nat):List D:=(List.range n).map λ(k:Nat)=>D.int (lo + (k:Int))
noncomputable def inR (j:Int):Prop:= -(2 ^ 62)<=j/\j < 2 ^ 62
noncomputable instance (j:Int):Decidable (inR j):=by unfold inR;infer_instance
noncomputable def rng1 (ds:List D) (G:DH):R ItD:=match ds with
 | [.int j]=>if inR j then .ok (.pure (Cq 0 j.toNat)) G else .bad
 | _=>.bad
noncomputable def Dl (f:List D->DH->R ItD) (ta:DA):DI:=λS G=>(ta S G).bind f
noncomputable def sWh (c:DB) (b:DS):Nat->DS
 | 0,_,_=>.bad
 | n + 1,S,G=>(c S G).toS λk G1=>if k=true then aft (b S G1) (sWh c b n) else .nx S G1
noncomputable def Bv (np nl:Nat) (b:DS):List D->DH->R D:=λds G=>if ds.length=np then tidy G (match b (ds.map some++List.replicate nl none) G with
 | .nx _ G'=>.ok .non G'
 | .rt d G'=>.ok d G'
 | .err x G'=>.err x G'
 | _=>.bad) else .bad
theorem outI.mono (x:Ext a b) {r:R ItD} {Q:It->Hp->Prop} (h:outI E a r Q):outI E b r Q:=by
 cases r with
 | ok d G=>exact λc v y s q=>h c v (x.trans y) s q
 | err e G=>exact XOk.mono (E:=E) (e:=e) (G:=G) x h
 | bad=>exact h
theorem U7 {r:R (List D)} {f:List D->DH->R ItD} {Q:It->Hp->Prop} (h:outI E a (r.bind f) Q):
  Ha E a r (λvs H=>∃(b:Wd) (ds:List D) (G:DH),b.H=H/\Ext a b/\Sim b G/\Reps b ds vs/\r=.ok ds G/\outI E b (f ds G) Q):=by
 cases r with
 | ok d G=>exact λb v x s q=>⟨b,d,G,rfl,x,s,q,rfl,outI.mono x h⟩
 | err e G=>exact h
 | bad=>exact h
section
variable {X:Cx} {E:XK} {tg iter:Expr} {pos:Pos}
theorem ZOW (lo:Int) (n:Nat):RepI a (.pure (Cq lo n)) (Itr lo n):=by
 refine ⟨(List.range n).map λ(k:Nat)=>V.int (lo + (k:Int)),?_,λb x i=>⟨λv hv=> ?_,λhl=> ?_⟩⟩
 ·unfold Cq;generalize List.range n=l
  induction l with
  | nil=>exact rfl
  | cons k l ih=>exact ⟨_,_,rfl,rfl,ih⟩
 ·rw [List.getElem?_map] at hv;by_cases hi:i < n
  ·rw [List.getElem?_range hi] at hv;have hv':V.int (lo + (i:Int))=v:=by simpa using hv
   exact ⟨hi,λw H' y=>⟨y.2.trans hv',y.1⟩⟩
  ·rw [List.getElem?_eq_none (by simpa using hi)] at hv;cases hv
 ·show n<=i;simpa using hl
theorem Ie {ta:DA} {p pos:Pos} (hg:Gl X "range") (hm:X.mg "range"=none) (ha:QA X E [e] ta) (hs:starEach [e] X.env= [(false,eval e X.env)]:=by rfl):QI X E tg (.Call (.Name "range" p) [e] [] pos) (Dl rng1 ta):=
 (ZIK hg hm ha hs).mono λσ H Q h=>by
  obtain ⟨a,S,G,hk,rfl,s,r,h⟩:=h;refine ⟨a,S,G,hk,rfl,s,r,(U7 h).imp ?_⟩;rintro vs _ ⟨b,ds,G1,rfl,x,s1,q,-,h1⟩;unfold rng1 at h1;split at h1
  ·rename_i j;split at h1
   ·rename_i hj;obtain ⟨v,r,e1,q1,q2⟩:=q
    cases (show v=V.int j from q1)
    cases (show r= [] from q2)
    exact ⟨j,e1,hj.1,hj.2,h1 b _ (Ext.refl b) s1 (ZOW 0 j.toNat)⟩
   ·exact h1.elim
  ·exact h1.elim
theorem ZNb (n:Nat) {c:Expr} {body:List Stmt} {tc:DB} {tb:DS} (hp:PassesOwn (model X.prog X.w) X.A X.env X.xe) (hc:QT X E c tc) (hb:QSs X E body tb):QS X E (.While c body [] pos) (sWh tc tb n):=(ZIL hp hc hb).mono λW σ H h=>by
 obtain ⟨a,S,G,hk,rfl,s,r,h⟩:=h;refine ⟨λm σ H=>∃(b:Wd) (S:DSt) (G:DH),b.H=H/\Ext a b/\Sim b G/\RepS b S σ/\Cw E b (sWh tc tb m S G) W,⟨n,a,S,G,rfl,Ext.refl a,s,r,h⟩,?_⟩;rintro m σ2 _ ⟨b,S2,G2,rfl,x2,s2,r2,h2⟩;cases m with
 | zero=>exact h2.elim
 | succ m=>
  refine ⟨b,S2,G2,x2.k.trans hk,rfl,s2,r2,(ZFY h2).imp ?_⟩;rintro k _ ⟨c3,G3,rfl,x3,s3,_,h3⟩;cases k with
  | false=>exact h3 c3 σ2 (Ext.refl c3) s3 (r2.mono x3)
  | true=>
   refine ⟨λσ' H'=>∃(b:Wd) (S:DSt) (G:DH),b.H=H'/\Ext a b/\Sim b G/\RepS b S σ'/\Cw E b (sWh tc tb m S G) W,λσ' H' z=>⟨m,Nat.lt_succ_self _,z⟩,c3,S2,G3,x3.k.trans (x2.k.trans hk),rfl,s3,r2.mono x3,?_⟩;have fin:=ZHj h3
   revert fin
   cases tb S2 G3 with
   | nx S4 G4=>
    intro fin c4 σ4 x4 s4 q4;obtain ⟨c5,S5,G5,hh,x5,s5,r5,h5⟩:=fin c4 σ4 x4 s4 q4;exact ⟨c5,S5,G5,hh,x2.trans (x3.trans x5),s5,r5,h5⟩
   | ct S4 G4=>
    intro fin c4 σ4 x4 s4 q4;obtain ⟨c5,S5,G5,hh,x5,s5,r5,h5⟩:=fin c4 σ4 x4 s4 q4;exact ⟨c5,S5,G5,hh,x2.trans (x3.trans x5),s5,r5,h5⟩
   | bk S4 G4=>exact λfin=>fin
   | rt S4 G4=>exact λfin=>fin
   | err S4 G4=>exact λfin=>fin
   | bad=>exact λfin=>fin
end
theorem ZJZ (r:Reps a ds vs) (n m:Nat) (h:n=m):RepS a (ds.map some++List.replicate n none) (vs.map some++List.replicate m none):=by
 subst h;refine ⟨by simp [r.length],λi d hd=> ?_⟩;by_cases hi:i < ds.length
 ·rw [List.getElem?_append_left (by simpa using hi),List.getElem?_map] at hd;cases e:ds[i]? with
  | none=>rw [e] at hd;cases hd
  | some d'=>
   rw [e] at hd;have hd':d'=d:=by simpa using hd
   subst hd';obtain ⟨v,ev,q⟩:=r.get e;exact ⟨v,by rw [List.getElem?_append_left (by rw [List.length_map,<-r.length];exact hi),List.getElem?_map,ev];rfl,q⟩
 ·rw [List.getElem?_append_right (by simpa using hi),List.getElem?_replicate] at hd
  split at hd <;> cases hd
theorem Cm {mg:Str->Option Value} {base:Heap} {qual:Str} {st:Stmt} {f:Addr} {fd:FuncData} {N ps:List Str} {b:DS} (F:Fun K x qual st f fd) (S:FnScope N ps (Av st))
  (hbody:∀(cdv:Value) (A:Around) (outer:List Env) (s:Shared) (H:Hp) (E:XK),Room k (A.deeper (envOfC qual (Av st) s.heap.objs.size f cdv))->QSs (Mw CX0 P w K mg base N qual (Av st) f cdv A outer s H E).nox E0 (J8 st) b):
  FnOk P w K mg base CX0 (k + 1) f fd ps (lF K (Bv ps.length (N.length - ps.length) b)):=by
 have hlen:∀vs H Q E,lF K (Bv ps.length (N.length - ps.length) b) vs H Q E->vs.length=ps.length:=λvs H Q E h=>by
  obtain ⟨a,G,ds,hk,rfl,sm,r,h⟩:=h;unfold Bv at h;split at h
  ·rename_i hl;rw [<-r.length];exact hl
  ·exact h.elim
 refine F.ok S hlen (λcdv A outer s H vs Q E hr h=> ?_);refine ⟨lS K E0 b,hbody cdv A outer s H E hr,?_⟩;have hl:=hlen vs H Q E h;obtain ⟨a,G,ds,hk,rfl,sm,r,h⟩:=h;unfold Bv at h;split at h
 ·have h2:=ZE6 sm h;refine ⟨a,ds.map some++List.replicate (N.length - ps.length) none,G,hk,rfl,sm,ZJZ r _ _ (by rw [hl]),?_⟩
  revert h2
  cases b (ds.map some++List.replicate (N.length - ps.length) none) G with
  | nx S1 G1=>exact λh2 c σ x s1 _=>h2 c .non x s1 rfl
  | rt d G1=>exact λh2=>h2
  | err e G1=>exact λh2=>h2
  | bk S1 G1=>exact λh2=>h2.elim
  | ct S1 G1=>exact λh2=>h2.elim
  | bad=>exact λh2=>h2
 ·exact h.elim
theorem Lp {x:V} (s:Sim a G) (r:Rep a d x) (h:Cd d G=some xs):∃p vs,x=.ref p/\(SqL a.K a.H p vs∨SqT a.K a.H p vs)/\Reps a xs vs:=by
 cases d with
 | tup ys=>
  have e:ys=xs:=Option.some.inj h;subst e;obtain ⟨p,vs,e,q,rr⟩:=r;exact ⟨p,vs,e,.inr q,rr⟩
 | fl ys=>
  have e:ys=xs:=Option.some.inj h;subst e;obtain ⟨p,vs,e,q,rr⟩:=r;exact ⟨p,vs,e,.inl q.sq,rr⟩
 | ref i=>
  unfold Cd at h;dsimp only at h;split at h
  ·rename_i ys hi;have e:ys=xs:=Option.some.inj h;subst e;obtain ⟨vs,e1,r1⟩:=s.lst hi;exact ⟨a.m i,vs,r.2,.inl (.of e1),r1⟩
  ·cases h
 | _=>cases h
noncomputable def Aj (d e:D) (G:DH):R D:=match e with
 | .int i=>match d with
  | .str z=>if z.length<=1000000 then (match atI z.cps.toList i with
    | some c=>.ok (.str ⟨#[c]⟩) G
    | none=>.bad) else .bad
  | d=>match Cd d G with
   | some xs=>match atI xs i with
    | some v=>.ok v G
    | none=>.bad
   | none=>.bad
 | _=>.bad
theorem ZFQ {i:Int} (r:Reps a xs vs) (h:atI xs i=some d):∃v,atI vs i=some v/\Rep a d v:=by
 unfold atI at h ⊢;rw [<-r.length];cases e:ixN xs.length i with
 | none=>rw [e] at h;cases h
 | some j=>
  rw [e] at h
  obtain ⟨v,ev,q⟩:=r.get (show xs[j]? =some d from h)
  exact ⟨v,ev,q⟩
section
variable {X:Cx} {E:XK}
theorem _root_.L2.IxR.mono {r r':R2} (h:IxR X r) (w:∀x y H Q,r' x y H Q->r x y H Q):IxR X r':=λvalue slice pins s σ H x y v u Q I rx ry q hs=>h value slice pins s σ H x y v u Q I rx ry (w _ _ _ _ q) hs
theorem _root_.L2.CallR.mono {f:Value} {r r':List V->Hp->VK->Prop} (h:CallR X f r) (w:∀xs H Q,r' xs H Q->r xs H Q):CallR X f r':=λpins s σ H xs us Q I rs q=>h pins s σ H xs us Q I rs (w _ _ _ q)
theorem _root_.L2.MtM.mono {id:String} {r r':V->List V->Hp->VK->Prop} (h:MtM X id r) (w:∀x xs H Q,r' x xs H Q->r x xs H Q):MtM X id r':=λpins s σ H x xs v us Q I rx rs q=>h pins s σ H x xs v us Q I rx rs (w _ _ _ _ q)
theorem Am:IxR X (lR2 X.K E Aj):=ZLF.mono λx y H Q h=>by
 obtain ⟨a,G,d,e,hk,rfl,s,rd,re,q⟩:=h;cases e with
 | int i=>
  have fin:∀{xs:List D},Cd d G=some xs->out E a (match atI xs i with | some v=>.ok v G | none=>.bad) Q->rIx X.K x y a.H Q:=λ{xs} hs q=>by
   obtain ⟨p,vs,e1,h1,r1⟩:=Lp s rd hs;rw [hk] at h1;split at q
   ·rename_i v hv;obtain ⟨u,hu,ru⟩:=ZFQ r1 hv;have z:=q a u (Ext.refl a) s ru;rcases h1 with h1 | h1
    ·exact .inl ⟨p,vs,i,u,e1,re,h1,hu,z⟩
    ·exact .inr (.inl ⟨p,vs,i,u,e1,re,h1,hu,z⟩)
   ·exact q.elim
  have fin':out E a (match Cd d G with | some xs=>(match atI xs i with | some v=>.ok v G | none=>.bad) | none=>.bad) Q->rIx X.K x y a.H Q:=λq=>by
   cases hs:Cd d G with
   | none=>rw [hs] at q;exact q.elim
   | some xs=>rw [hs] at q;exact fin hs q
  cases d with
  | str z=>
   unfold Aj at q;dsimp only at q;split at q
   ·rename_i hl;split at q
    ·rename_i c hc;exact .inr (.inr ⟨z,i,c,rd,re,Nat.le_trans hl size6,hc,q a _ (Ext.refl a) s rfl⟩)
    ·exact q.elim
   ·exact q.elim
  | tup ys=>exact fin' q
  | fl ys=>exact fin' q
  | ref j=>exact fin' q
  | _=>exact fin' q
 | _=>exact q.elim
noncomputable def Dc (ds:List D) (G:DH):R D:=match ds with
 | [.str z]=>if z.length<=1000000 then .ok (.int z.length) G else .bad
 | [d]=>match Cd d G with
  | some xs=>.ok (.int xs.length) G
  | none=>.bad
 | _=>.bad
theorem reps1 (r:Reps a [d] vs):∃v,vs= [v]/\Rep a d v:=by
 obtain ⟨v,r',e,q,z⟩:=r
 cases (show r'= [] from z)
 exact ⟨v,e,q⟩
theorem reps2 {d':D} (r:Reps a [d,d'] vs):∃v v',vs= [v,v']/\Rep a d v/\Rep a d' v':=by obtain ⟨v,r',e,q,z⟩:=r;obtain ⟨v',e',q'⟩:=reps1 z;subst e';exact ⟨v,v',e,q,q'⟩
theorem Dr:CallR X (.builtin "len") (lRn X.K E Dc):=(ZIu.or ZKv).mono λvs H Q h=>by
 obtain ⟨a,G,ds,hk,rfl,s,r,q⟩:=h;unfold Dc at q;split at q
 ·rename_i z;split at q
  ·rename_i hl;obtain ⟨v,rfl,rv⟩:=reps1 r
   cases (show v=V.str z from rv)
   exact .inr ⟨z,rfl,Nat.le_trans hl size6,q a _ (Ext.refl a) s rfl⟩
  ·exact q.elim
 ·rename_i d _;split at q
  ·rename_i xs hs;obtain ⟨v,rfl,rv⟩:=reps1 r;obtain ⟨p,us,rfl,h1,r1⟩:=Lp s rv hs;rw [hk] at h1;exact .inl ⟨p,us,rfl,h1,q a _ (Ext.refl a) s (by rw [<-r1.length];exact rfl)⟩
  ·exact q.elim
 ·exact q.elim
noncomputable def H9 (ds:List D) (G:DH):R D:=match ds with
 | [d]=>match Cd d G with
  | some xs=>.ok (.tup xs) G
  | none=>.bad
 | _=>.bad
theorem Jg:CallR X (.type "tuple") (lRn X.K E H9):=ZJj.mono λvs H Q h=>by
 obtain ⟨a,G,ds,hk,rfl,s,r,q⟩:=h;unfold H9 at q;split at q
 ·rename_i d;split at q
  ·rename_i xs hs;obtain ⟨v,rfl,rv⟩:=reps1 r;obtain ⟨p,us,rfl,h1,r1⟩:=Lp s rv hs;refine ⟨p,us,rfl,?_⟩;rcases h1 with h1 | h1
   ·exact .inl ⟨by rw [<-hk];exact h1,λl hl=>ZB8 s r1 q l hl⟩
   ·exact .inr ⟨by rw [<-hk];exact h1,q a _ (Ext.refl a) s ⟨p,us,rfl,h1,r1⟩⟩
  ·exact q.elim
 ·exact q.elim
noncomputable def Wl (ds:List D) (G:DH):R D:=match ds with
 | [.str z]=>if z.length<=1000000 then .ok (.ref G.length) (G++ [.lst (signs z)]) else .bad
 | [d]=>match Cd d G with
  | some xs=>.ok (.ref G.length) (G++ [.lst xs])
  | none=>.bad
 | _=>.bad
theorem ZCW:∀{vs:List V} {us:List Value},vs.length=us.length->(∀(i:Nat) (v:V) (u:Value),vs[i]? =some v->us[i]? =some u->RelV v u)->Vals vs us
 | [],[],_,_=>.nil
 | [],_::_,h,_=>by cases h
 | _::_,[],h,_=>by cases h
 | v::vs,u::us,h,f=>.cons (f 0 v u rfl rfl) (ZCW (by simpa using h) λi v' u' h1 h2=>f (i + 1) v' u' (by simpa using h1) (by simpa using h2))
theorem ZIH (hc:X.calm=true):CallR X (.type "list") (λxs H Q=>∃z:Str,xs= [.str z]/\z.length<=sizeLine/\∀l,H l=none->Q (.ref l) (upd H l (.lst (z.cps.toList.map λc=>V.str ⟨#[c]⟩)))):=by
 intro pins s σ H xs us Q I r h;obtain ⟨z,rfl,hz,q⟩:=h;obtain ⟨u,rfl,t,rfl⟩:=vals1 r;refine PySem.call_list_str (I.ok.hd hc) z t (λh' tk acc c hk hS hacc=> ?_) hz;have hn:H s.heap.objs.size=none:=I.hok.fresh (Nat.le_refl _);refine ⟨.ref s.heap.objs.size,upd H s.heap.objs.size (.lst (z.cps.toList.map λc=>V.str ⟨#[c]⟩)),I.laid (t':=tk) (h':=h') hk (Nat.le_refl _) ?_,rfl,q _ hn⟩;refine ⟨by rw [List.length_map,Array.length_toList];exact hz,acc.toList,c,ZCW ?_ λi v u h1 h2=> ?_,by simpa using hS⟩
 ·rw [List.length_map,Array.length_toList,Array.length_toList];exact hacc.1.symm
 ·rw [List.getElem?_map,Option.map_eq_some_iff] at h1;obtain ⟨k,e1,rfl⟩:=h1;obtain ⟨k',t',e2,rfl⟩:=hacc.2 i u (by rw [<-Array.getElem?_toList];exact h2);rw [Array.getElem?_toList,e2] at e1;cases e1;exact ⟨t',rfl⟩
theorem ZII (hc:X.calm=true):CallR X (.type "list") (lRn X.K E Wl):=(ZNP.or (ZIH hc)).mono λvs H Q h=>by
 obtain ⟨a,G,ds,hk,rfl,s,r,q⟩:=h;unfold Wl at q;split at q
 ·rename_i z;split at q
  ·rename_i hl;obtain ⟨v,rfl,rv⟩:=reps1 r
   cases (show v=V.str z from rv)
   exact .inr ⟨z,rfl,Nat.le_trans hl size6,λl hl=>Ls s (Reps.signs z) q l hl⟩
  ·exact q.elim
 ·rename_i d _;split at q
  ·rename_i xs hs;obtain ⟨v,rfl,rv⟩:=reps1 r;obtain ⟨p,us,rfl,h1,r1⟩:=Lp s rv hs;exact .inl ⟨p,us,rfl,by rw [<-hk];exact h1,λl hl=>Ls s r1 q l hl⟩
  ·exact q.elim
 ·exact q.elim
noncomputable def Y4 (ds:List D) (G:DH):R D:=match ds with
 | [.int i,.int j]=>.ok (.int (if j > i then j else i)) G
 | _=>.bad
noncomputable def Nj (ds:List D) (G:DH):R D:=match ds with
 | [.int i,.int j]=>.ok (.int (if j < i then j else i)) G
 | _=>.bad
theorem ZNf (hc:X.calm=true):CallR X (.builtin "max") (lRn X.K E Y4):=(ZLB hc).mono λvs H Q h=>by
 obtain ⟨a,G,ds,hk,rfl,s,r,q⟩:=h;unfold Y4 at q;split at q
 ·obtain ⟨v,v',rfl,h1,h2⟩:=reps2 r
  cases (show v=V.int _ from h1)
  cases (show v'=V.int _ from h2)
  exact ⟨_,_,rfl,q a _ (Ext.refl a) s rfl⟩
 ·exact q.elim
theorem Uc (hc:X.calm=true):CallR X (.builtin "min") (lRn X.K E Nj):=(ZPb hc).mono λvs H Q h=>by
 obtain ⟨a,G,ds,hk,rfl,s,r,q⟩:=h;unfold Nj at q;split at q
 ·obtain ⟨v,v',rfl,h1,h2⟩:=reps2 r
  cases (show v=V.int _ from h1)
  cases (show v'=V.int _ from h2)
  exact ⟨_,_,rfl,q a _ (Ext.refl a) s rfl⟩
 ·exact q.elim
noncomputable def Fy (o:D) (ds:List D) (G:DH):R D:=match o,ds with
 | .ref i,[d]=>match G[i]? with
  | some (.lst xs)=>if xs.length < 1000000 then .ok .non (G.set i (.lst (xs++ [d]))) else .bad
  | _=>.bad
 | _,_=>.bad
noncomputable def lRm (K:PySem.W.Frag) (E:XK) (f:D->List D->DH->R D):V->List V->Hp->VK->Prop:=λx xs H Q=>∃(a:Wd) (G:DH) (d:D) (ds:List D),a.K=K/\a.H=H/\Sim a G/\Rep a d x/\Reps a ds xs/\out E a (f d ds G) Q
theorem Sim.isList (s:Sim a G) (h:G[i]? =some (.lst xs)):∃vs,SqL a.K a.H (a.m i) vs:=let ⟨vs,e,_⟩:=s.lst h;⟨vs,.of e⟩
theorem Hv:MtM X "list.append" (lRm X.K E Fy):=ZKa.mono λx xs H Q h=>by
 obtain ⟨a,G,d,ds,hk,rfl,s,rd,r,q⟩:=h;unfold Fy at q;split at q
 ·rename_i i d;obtain ⟨v,rfl,rv⟩:=reps1 r;split at q
  ·rename_i ys hy;split at q
   ·rename_i hl;obtain ⟨vs,e1,r1⟩:=s.lst hy;obtain ⟨x3,s3⟩:=ZBc s rd.1 e1 (r1.append (Reps.cons rv Reps.nil));refine ⟨a.m i,vs,v,rd.2,rfl,e1,by rw [<-r1.length];exact Nat.lt_of_lt_of_le hl size6,?_⟩;exact q _ .non x3 s3 rfl
   ·exact q.elim
  ·exact q.elim
 ·exact q.elim
variable {o e:Expr} {es:List Expr} {to:DE} {t:DA} {name:Str} {apos cpos:Pos} {T id:String} {f:D->List D->DH->R D}
noncomputable def isL (d:D) (G:DH):Bool:=match d with
 | .ref i=>match G[i]? with
  | some (.lst _)=>true
  | _=>false
 | .fl _=>true
 | _=>false
noncomputable def G8 (f:D->List D->DH->R D) (o:DE) (t:DA):DE:=λS G=>(o S G).bind λx G1=>if isL x G1=true then (t S G1).bind λxs G2=>f x xs G2 else .bad
theorem ZPN {x:V} (s:Sim a G) (r:Rep a d x) (h:isL d G=true):tyV a.K "list" x a.H:=by
 cases d with
 | ref i=>
  unfold isL at h;dsimp only at h;split at h
  ·rename_i xs hx;cases r.2;exact .inl ⟨rfl,s.isList hx⟩
  ·cases h
 | fl xs=>
  obtain ⟨p,vs,rfl,q,_⟩:=r;exact .inl ⟨rfl,vs,q.sq⟩
 | _=>cases h
theorem Hr (slot:Slot "list" name id) (hty:typeOf (.builtin id)=pure (.type "method_descriptor")) (hm:MtM X id (lRm X.K E f)) (ho:QE X E o to) (ha:QA X E (e::es) t)
  (hbase:attributeBase o name X.env (eval o X.env)=eval o X.env:=by rfl)
  (hfew:((backTo cpos (starEach (e::es) X.env)).all (λx=> !x.1) && (backToKw cpos (keywordEach [] X.env)).all (λx=>x.1.isSome)
   && decide ((e::es).length + ([]:List Keyword).length + (if ([]:List Keyword).isEmpty then 0 else 1) < 30))=true:=by rfl)
  (hline:(apos.endLine == cpos.line)=true:=by rfl) (hs:starEach (e::es) X.env=(false,eval e X.env)::starEach es X.env:=by rfl) (hplain:(backTo cpos (starEach es X.env)).any (·.1)=false:=by rfl):
  QE X E (.Call (.Attribute o name apos) (e::es) [] cpos) (G8 f to t):=(ZOZ PySem.F.plainAttrs_list slot hty hm ho ha hbase hfew hline hs hplain).mono λσ H Q h=>by
 obtain ⟨a,S,G,hk,rfl,s,r,h⟩:=h;refine ⟨a,S,G,hk,rfl,s,r,(Gh h).imp ?_⟩;rintro v _ ⟨b,d,G1,rfl,x,s1,q,-,h1⟩;split at h1
 ·rename_i hl;have ty:=ZPN s1 q hl;rw [x.k,hk] at ty;refine ⟨ty,b,S,G1,x.k.trans hk,rfl,s1,r.mono x,(Np h1).imp ?_⟩;rintro vs _ ⟨c,ds,G2,rfl,y,s2,q2,-,h2⟩;exact ⟨c,G2,d,ds,y.k.trans (x.k.trans hk),rfl,s2,q.mono y,q2,h2⟩
 ·exact h1.elim
end
inductive Ty where | non | bl | int | str | tup | lst
noncomputable def tyD (G:DH):D->Option Ty
 | .non=>some .non
 | .bl _=>some .bl
 | .int _=>some .int
 | .str _=>some .str
 | .tup _=>some .tup
 | .fl _=>some .lst
 | .ref i=>match G[i]? with
  | some (.lst _)=>some .lst
  | _=>none
 | .ty _=>none
noncomputable def Ty.sub (t:Ty):String->Option Bool
 | "int"=>some (match t with | .int=>true | .bl=>true | _=>false)
 | "bool"=>some (match t with | .bl=>true | _=>false)
 | "str"=>some (match t with | .str=>true | _=>false)
 | "tuple"=>some (match t with | .tup=>true | _=>false)
 | "list"=>some (match t with | .lst=>true | _=>false)
 | _=>none
noncomputable def Fx (ds:List D) (G:DH):R D:=match ds with
 | [d,.ty T]=>match tyD G d with
  | some t=>match t.sub T with
   | some k=>.ok (.bl k) G
   | none=>.bad
  | none=>.bad
 | _=>.bad
section
variable {prog:Program} {w:World} {A:Around} {E:Value->Shared->Prop} {s:Shared}
theorem N6 {x:Value} {Tx T:String} {Q:Value->Shared->Prop} (hx:s.TypeIs x Tx) (hty:typeOf (.type T)=pure (.type "type")) (hsub:isSubtype (.type Tx) (.type T)=pure true) (h:Q (.bool true) s):
  wpAny (model prog w) A (call (.builtin "isinstance") [x,.type T]) Q E s:=call_isinstance (isinstance_true hty hsub) ⟨hx,h⟩
end
theorem ty_int:typeOf (.type "int")=pure (.type "type"):=by with_unfolding_all rfl
theorem ty_bool:typeOf (.type "bool")=pure (.type "type"):=by with_unfolding_all rfl
theorem ty_str:typeOf (.type "str")=pure (.type "type"):=by with_unfolding_all rfl
theorem ty_tuple:typeOf (.type "tuple")=pure (.type "type"):=by with_unfolding_all rfl
theorem ty_list:typeOf (.type "list")=pure (.type "type"):=by with_unfolding_all rfl
theorem ZLL:isSubtype (.type "NoneType") (.type "int")=pure false:=by with_unfolding_all rfl
theorem ZPp:isSubtype (.type "NoneType") (.type "bool")=pure false:=by with_unfolding_all rfl
theorem ZJm:isSubtype (.type "NoneType") (.type "str")=pure false:=by with_unfolding_all rfl
theorem ZNC:isSubtype (.type "NoneType") (.type "tuple")=pure false:=by with_unfolding_all rfl
theorem ZK2:isSubtype (.type "NoneType") (.type "list")=pure false:=by with_unfolding_all rfl
theorem ZOl:isSubtype (.type "bool") (.type "int")=pure true:=by with_unfolding_all rfl
theorem ZOf:isSubtype (.type "bool") (.type "bool")=pure true:=by with_unfolding_all rfl
theorem ZJr:isSubtype (.type "bool") (.type "str")=pure false:=by with_unfolding_all rfl
theorem ZME:isSubtype (.type "bool") (.type "tuple")=pure false:=by with_unfolding_all rfl
theorem ZKt:isSubtype (.type "bool") (.type "list")=pure false:=by with_unfolding_all rfl
theorem ZJc:isSubtype (.type "int") (.type "int")=pure true:=by with_unfolding_all rfl
theorem ZJx:isSubtype (.type "int") (.type "bool")=pure false:=by with_unfolding_all rfl
theorem ZPQ:isSubtype (.type "int") (.type "str")=pure false:=by with_unfolding_all rfl
theorem ZMI:isSubtype (.type "int") (.type "tuple")=pure false:=by with_unfolding_all rfl
theorem ZOB:isSubtype (.type "int") (.type "list")=pure false:=by with_unfolding_all rfl
theorem ZMU:isSubtype (.type "str") (.type "int")=pure false:=by with_unfolding_all rfl
theorem ZKs:isSubtype (.type "str") (.type "bool")=pure false:=by with_unfolding_all rfl
theorem ZNg:isSubtype (.type "str") (.type "str")=pure true:=by with_unfolding_all rfl
theorem ZNy:isSubtype (.type "str") (.type "tuple")=pure false:=by with_unfolding_all rfl
theorem ZJn:isSubtype (.type "str") (.type "list")=pure false:=by with_unfolding_all rfl
theorem ZJq:isSubtype (.type "tuple") (.type "int")=pure false:=by with_unfolding_all rfl
theorem ZIo:isSubtype (.type "tuple") (.type "bool")=pure false:=by with_unfolding_all rfl
theorem ZNS:isSubtype (.type "tuple") (.type "str")=pure false:=by with_unfolding_all rfl
theorem ZLu:isSubtype (.type "tuple") (.type "tuple")=pure true:=by with_unfolding_all rfl
theorem ZMy:isSubtype (.type "tuple") (.type "list")=pure false:=by with_unfolding_all rfl
theorem ZF8:isSubtype (.type "list") (.type "int")=pure false:=by with_unfolding_all rfl
theorem ZEH:isSubtype (.type "list") (.type "bool")=pure false:=by with_unfolding_all rfl
theorem ZEs:isSubtype (.type "list") (.type "str")=pure false:=by with_unfolding_all rfl
theorem ZHX:isSubtype (.type "list") (.type "tuple")=pure false:=by with_unfolding_all rfl
theorem ZDW:isSubtype (.type "list") (.type "list")=pure true:=by with_unfolding_all rfl
section
variable {X:Cx} {E:XK}
theorem Kc:CallR X (.builtin "isinstance") (lRn X.K E Fx):=by
 intro pins s σ H vs us Q I rs h;obtain ⟨a,G,ds,hk,rfl,sm,r,q⟩:=h;unfold Fx at q;split at q
 ·rename_i d T;obtain ⟨v,v',rfl,h1,h2⟩:=reps2 r
  cases (show v'=V.ty T from h2)
  obtain ⟨u,u',rfl,ru,ru'⟩:∃u u',us= [u,u']/\RelV v u/\RelV (.ty T) u':=by
   cases rs with
   | cons p q=>cases q with
    | cons p' q'=>cases q';exact ⟨_,_,rfl,p,p'⟩
  cases (show u'=Value.type T from ru')
  split at q
  ·rename_i t ht;split at q
   ·rename_i k hk';have fin:∀{n:Nat},EP X pins σ Q (.bool k) {s with toks:=n}:=λ{n}=>⟨.bl k,a.H,I.tok _,rfl,q a _ (Ext.refl a) sm rfl⟩
    have fin0:EP X pins σ Q (.bool k) s:=⟨.bl k,a.H,I,rfl,q a _ (Ext.refl a) sm rfl⟩;unfold Ty.sub at hk';split at hk'
    ·cases d with
     | non=>
      cases ht;cases hk'
      cases (show v=_ from h1)
      cases ru;exact call_isinstance (isinstance_false_none (by decide) ty_int ZLL) fin
     | bl b=>
      cases ht;cases hk'
      cases (show v=_ from h1)
      cases ru;exact N6 (Tx:="bool") rfl ty_int ZOl fin0
     | int b=>
      cases ht;cases hk'
      cases (show v=_ from h1)
      obtain ⟨tk,rfl⟩:=ru;exact N6 (Tx:="int") (typeIs_int s _ _) ty_int ZJc fin0
     | str b=>
      cases ht;cases hk'
      cases (show v=_ from h1)
      obtain ⟨tk,rfl⟩:=ru;exact call_isinstance (isinstance_false_str (by decide) ty_int ZMU) fin
     | tup b=>
      cases ht;cases hk';obtain ⟨p,ws,rfl,hq,_⟩:=h1;cases ru;rw [hk] at hq;obtain ⟨its,_,pl,_⟩:=I.tuple hq;exact call_isinstance (isinstance_false_tuple (by decide) ty_int ZJq) ⟨(let ⟨o,e,c,_⟩:=pl;⟨o,e,c⟩),fin⟩
     | fl b=>
      cases ht;cases hk';obtain ⟨p,ws,rfl,hq,_⟩:=h1;cases ru;have hq:=hq.sq;rw [hk] at hq;obtain ⟨its,_,pl,_⟩:=I.list hq;exact call_isinstance (isinstance_false_list (by decide) ty_int ZF8) ⟨(let ⟨o,e,c,_⟩:=pl.isList;⟨o,e,c⟩),fin⟩
     | ref b=>
      unfold tyD at ht;dsimp only at ht;split at ht
      ·rename_i xs hx;cases ht;cases hk';obtain ⟨ws,e1,_⟩:=sm.lst hx;cases h1.2;cases ru;obtain ⟨its,_,pl,_⟩:=I.list (.of e1);exact call_isinstance (isinstance_false_list (by decide) ty_int ZF8) ⟨(let ⟨o,e,c,_⟩:=pl.isList;⟨o,e,c⟩),fin⟩
      ·cases ht
     | ty n=>cases ht
    ·cases d with
     | non=>
      cases ht;cases hk'
      cases (show v=_ from h1)
      cases ru;exact call_isinstance (isinstance_false_none (by decide) ty_bool ZPp) fin
     | bl b=>
      cases ht;cases hk'
      cases (show v=_ from h1)
      cases ru;exact N6 (Tx:="bool") rfl ty_bool ZOf fin0
     | int b=>
      cases ht;cases hk'
      cases (show v=_ from h1)
      obtain ⟨tk,rfl⟩:=ru;exact call_isinstance (isinstance_false_int (by decide) ty_bool ZJx) fin
     | str b=>
      cases ht;cases hk'
      cases (show v=_ from h1)
      obtain ⟨tk,rfl⟩:=ru;exact call_isinstance (isinstance_false_str (by decide) ty_bool ZKs) fin
     | tup b=>
      cases ht;cases hk';obtain ⟨p,ws,rfl,hq,_⟩:=h1;cases ru;rw [hk] at hq;obtain ⟨its,_,pl,_⟩:=I.tuple hq;exact call_isinstance (isinstance_false_tuple (by decide) ty_bool ZIo) ⟨(let ⟨o,e,c,_⟩:=pl;⟨o,e,c⟩),fin⟩
     | fl b=>
      cases ht;cases hk';obtain ⟨p,ws,rfl,hq,_⟩:=h1;cases ru;have hq:=hq.sq;rw [hk] at hq;obtain ⟨its,_,pl,_⟩:=I.list hq;exact call_isinstance (isinstance_false_list (by decide) ty_bool ZEH) ⟨(let ⟨o,e,c,_⟩:=pl.isList;⟨o,e,c⟩),fin⟩
     | ref b=>
      unfold tyD at ht;dsimp only at ht;split at ht
      ·rename_i xs hx;cases ht;cases hk';obtain ⟨ws,e1,_⟩:=sm.lst hx;cases h1.2;cases ru;obtain ⟨its,_,pl,_⟩:=I.list (.of e1);exact call_isinstance (isinstance_false_list (by decide) ty_bool ZEH) ⟨(let ⟨o,e,c,_⟩:=pl.isList;⟨o,e,c⟩),fin⟩
      ·cases ht
     | ty n=>cases ht
    ·cases d with
     | non=>
      cases ht;cases hk'
      cases (show v=_ from h1)
      cases ru;exact call_isinstance (isinstance_false_none (by decide) ty_str ZJm) fin
     | bl b=>
      cases ht;cases hk'
      cases (show v=_ from h1)
      cases ru;exact call_isinstance (isinstance_false_bool (by decide) ty_str ZJr) fin
     | int b=>
      cases ht;cases hk'
      cases (show v=_ from h1)
      obtain ⟨tk,rfl⟩:=ru;exact call_isinstance (isinstance_false_int (by decide) ty_str ZPQ) fin
     | str b=>
      cases ht;cases hk'
      cases (show v=_ from h1)
      obtain ⟨tk,rfl⟩:=ru;exact N6 (Tx:="str") (typeIs_str s _ _) ty_str ZNg fin0
     | tup b=>
      cases ht;cases hk';obtain ⟨p,ws,rfl,hq,_⟩:=h1;cases ru;rw [hk] at hq;obtain ⟨its,_,pl,_⟩:=I.tuple hq;exact call_isinstance (isinstance_false_tuple (by decide) ty_str ZNS) ⟨(let ⟨o,e,c,_⟩:=pl;⟨o,e,c⟩),fin⟩
     | fl b=>
      cases ht;cases hk';obtain ⟨p,ws,rfl,hq,_⟩:=h1;cases ru;have hq:=hq.sq;rw [hk] at hq;obtain ⟨its,_,pl,_⟩:=I.list hq;exact call_isinstance (isinstance_false_list (by decide) ty_str ZEs) ⟨(let ⟨o,e,c,_⟩:=pl.isList;⟨o,e,c⟩),fin⟩
     | ref b=>
      unfold tyD at ht;dsimp only at ht;split at ht
      ·rename_i xs hx;cases ht;cases hk';obtain ⟨ws,e1,_⟩:=sm.lst hx;cases h1.2;cases ru;obtain ⟨its,_,pl,_⟩:=I.list (.of e1);exact call_isinstance (isinstance_false_list (by decide) ty_str ZEs) ⟨(let ⟨o,e,c,_⟩:=pl.isList;⟨o,e,c⟩),fin⟩
      ·cases ht
     | ty n=>cases ht
    ·cases d with
     | non=>
      cases ht;cases hk'
      cases (show v=_ from h1)
      cases ru;exact call_isinstance (isinstance_false_none (by decide) ty_tuple ZNC) fin
     | bl b=>
      cases ht;cases hk'
      cases (show v=_ from h1)
      cases ru;exact call_isinstance (isinstance_false_bool (by decide) ty_tuple ZME) fin
     | int b=>
      cases ht;cases hk'
      cases (show v=_ from h1)
      obtain ⟨tk,rfl⟩:=ru;exact call_isinstance (isinstance_false_int (by decide) ty_tuple ZMI) fin
     | str b=>
      cases ht;cases hk'
      cases (show v=_ from h1)
      obtain ⟨tk,rfl⟩:=ru;exact call_isinstance (isinstance_false_str (by decide) ty_tuple ZNy) fin
     | tup b=>
      cases ht;cases hk';obtain ⟨p,ws,rfl,hq,_⟩:=h1;cases ru;rw [hk] at hq;obtain ⟨its,_,pl,_⟩:=I.tuple hq;exact N6 (Tx:="tuple") pl.typeIs ty_tuple ZLu fin0
     | fl b=>
      cases ht;cases hk';obtain ⟨p,ws,rfl,hq,_⟩:=h1;cases ru;have hq:=hq.sq;rw [hk] at hq;obtain ⟨its,_,pl,_⟩:=I.list hq;exact call_isinstance (isinstance_false_list (by decide) ty_tuple ZHX) ⟨(let ⟨o,e,c,_⟩:=pl.isList;⟨o,e,c⟩),fin⟩
     | ref b=>
      unfold tyD at ht;dsimp only at ht;split at ht
      ·rename_i xs hx;cases ht;cases hk';obtain ⟨ws,e1,_⟩:=sm.lst hx;cases h1.2;cases ru;obtain ⟨its,_,pl,_⟩:=I.list (.of e1);exact call_isinstance (isinstance_false_list (by decide) ty_tuple ZHX) ⟨(let ⟨o,e,c,_⟩:=pl.isList;⟨o,e,c⟩),fin⟩
      ·cases ht
     | ty n=>cases ht
    ·cases d with
     | non=>
      cases ht;cases hk'
      cases (show v=_ from h1)
      cases ru;exact call_isinstance (isinstance_false_none (by decide) ty_list ZK2) fin
     | bl b=>
      cases ht;cases hk'
      cases (show v=_ from h1)
      cases ru;exact call_isinstance (isinstance_false_bool (by decide) ty_list ZKt) fin
     | int b=>
      cases ht;cases hk'
      cases (show v=_ from h1)
      obtain ⟨tk,rfl⟩:=ru;exact call_isinstance (isinstance_false_int (by decide) ty_list ZOB) fin
     | str b=>
      cases ht;cases hk'
      cases (show v=_ from h1)
      obtain ⟨tk,rfl⟩:=ru;exact call_isinstance (isinstance_false_str (by decide) ty_list ZJn) fin
     | tup b=>
      cases ht;cases hk';obtain ⟨p,ws,rfl,hq,_⟩:=h1;cases ru;rw [hk] at hq;obtain ⟨its,_,pl,_⟩:=I.tuple hq;exact call_isinstance (isinstance_false_tuple (by decide) ty_list ZMy) ⟨(let ⟨o,e,c,_⟩:=pl;⟨o,e,c⟩),fin⟩
     | fl b=>
      cases ht;cases hk';obtain ⟨p,ws,rfl,hq,_⟩:=h1;cases ru;have hq:=hq.sq;rw [hk] at hq;obtain ⟨its,_,pl,_⟩:=I.list hq;exact N6 (Tx:="list") pl.isList.typeIs ty_list ZDW fin0
     | ref b=>
      unfold tyD at ht;dsimp only at ht;split at ht
      ·rename_i xs hx;cases ht;cases hk';obtain ⟨ws,e1,_⟩:=sm.lst hx;cases h1.2;cases ru;obtain ⟨its,_,pl,_⟩:=I.list (.of e1);exact N6 (Tx:="list") pl.isList.typeIs ty_list ZDW fin0
      ·cases ht
     | ty n=>cases ht
    ·cases hk'
   ·exact q.elim
  ·exact q.elim
 ·exact q.elim
end
noncomputable def Gx:List D->Option (List Int)
 | []=>some []
 | .int i::r=>(Gx r).map (i::·)
 | _=>none
noncomputable def Ih:List D->Option (List Bool)
 | []=>some []
 | .bl i::r=>(Ih r).map (i::·)
 | _=>none
@[simp] theorem ZCE (ns:List Int):Gx (ns.map D.int)=some ns:=by
 induction ns with
 | nil=>rfl
 | cons n ns ih=>simp [Gx,ih]
@[simp] theorem ZQ7 (ns:List Bool):Ih (ns.map D.bl)=some ns:=by
 induction ns with
 | nil=>rfl
 | cons n ns ih=>simp [Ih,ih]
theorem T6:∀{xs:List D} {ns:List Int},Gx xs=some ns->xs=ns.map D.int
 | [],ns,h=>by cases h;rfl
 | .int i::r,ns,h=>by simp only [Gx,Option.map_eq_some_iff] at h;obtain ⟨ms,h1,rfl⟩:=h;rw [List.map_cons,T6 h1]
 | .non::r,ns,h=>by simp [Gx] at h
 | .bl _::r,ns,h=>by simp [Gx] at h
 | .str _::r,ns,h=>by simp [Gx] at h
 | .ty _::r,ns,h=>by simp [Gx] at h
 | .tup _::r,ns,h=>by simp [Gx] at h
 | .fl _::r,ns,h=>by simp [Gx] at h
 | .ref _::r,ns,h=>by simp [Gx] at h
theorem ZDQ:∀{xs:List D} {ns:List Bool},Ih xs=some ns->xs=ns.map D.bl
 | [],ns,h=>by cases h;rfl
 | .bl i::r,ns,h=>by simp only [Ih,Option.map_eq_some_iff] at h;obtain ⟨ms,h1,rfl⟩:=h;rw [List.map_cons,ZDQ h1]
 | .non::r,ns,h=>by simp [Ih] at h
 | .int _::r,ns,h=>by simp [Ih] at h
 | .str _::r,ns,h=>by simp [Ih] at h
 | .ty _::r,ns,h=>by simp [Ih] at h
 | .tup _::r,ns,h=>by simp [Ih] at h
 | .fl _::r,ns,h=>by simp [Ih] at h
 | .ref _::r,ns,h=>by simp [Ih] at h
noncomputable def H8 (ds:List D) (G:DH):R D:=match ds with
 | [d]=>match Cd d G with
  | some xs=>match Gx xs with
   | some ns=>.ok (.int ns.sum) G
   | none=>.bad
  | none=>.bad
 | _=>.bad
noncomputable def Nx (ds:List D) (G:DH):R D:=match ds with
 | [d]=>match Cd d G with
  | some xs=>match Ih xs with
   | some ns=>.ok (.bl (ns.all id)) G
   | none=>.bad
  | none=>.bad
 | _=>.bad
section
variable {X:Cx} {E:XK} {pins:List (Addr×Obj)} {σ:St} {s:Shared} {H:Hp}
theorem Uy (I:Inv X pins σ H s) (hc:X.calm=true) (h:SqL X.K H p vs∨SqT X.K H p vs) {E':Value->Shared->Prop} {Q:Value->Shared->Prop}
  (hQ:∀(it:Addr) (fp wr:List Addr) (its:List Value) (St:Nat->Heap->Prop) (s₂:Shared),Vals vs its->Walks X.prog X.w X.A.in1 it fp wr its.toArray.size (λi v=>its.toArray[i]? =some v) St->St 0 s₂.heap->(∀b∈fp,b < s₂.heap.objs.size)->
   (∀h' tk,(∀b o,b ∉ wr->s₂.heap.get? b=some o->h'.get? b=some o)->Inv X pins σ H {s₂ with heap:=h',toks:=tk})->Q (.ref it) s₂):
  wpAny (model X.prog X.w) X.A.in1 (pyIter (.ref p)) Q E' s:=by
 have hh:X.A.in1.handled=none:=I.ok.hd hc;rcases h with h | h
 ·obtain ⟨its,r,pl,hz⟩:=I.list h;refine wpAny_pyIter_list pl.isList ?_;have hp:p < s.heap.objs.size:=by obtain ⟨o,e,_⟩:=pl.isList;exact Heap.lt_size e
  refine hQ _ _ _ its _ _ r (Walks.list hh _ p (Nat.ne_of_lt hp) its.toArray) ⟨⟨_,Heap.get?_push_size _ rfl,rfl,rfl⟩,?_⟩ (λb hb=> ?_) λh' tk kk=> ?_
  ·obtain ⟨o,e,c⟩:=pl.isList;exact ⟨o,Heap.get?_push_of_some _ e,c⟩
  ·show b < (s.heap.push _).objs.size;rw [Heap.size_push];rcases List.mem_cons.mp hb with rfl | hb
   ·exact Nat.lt_succ_self _
   ·have e:b=p:=by simpa using hb
    subst e;exact Nat.lt_succ_of_lt hp
  ·refine I.kept λb o e=>kk b o (λhb=> ?_) (Heap.get?_push_of_some _ e)
   have e2:b=s.heap.objs.size:=by simpa using hb
   subst e2;exact absurd (Heap.lt_size e) (Nat.lt_irrefl _)
 ·obtain ⟨its,r,pl,hz⟩:=I.tuple h
  refine wpAny_pyIter_tuple (show s.heap.IsTuple p its.toArray from pl) ?_
  have hp:p < s.heap.objs.size:=by obtain ⟨o,e,_⟩:=pl;exact Heap.lt_size e
  refine hQ _ _ _ its _ _ r (Walks.tuple hh _ p (Nat.ne_of_lt hp) its.toArray) ⟨⟨_,Heap.get?_push_size _ rfl,rfl,rfl⟩,?_⟩ (λb hb=> ?_) λh' tk kk=> ?_
  ·obtain ⟨o,e,c⟩:=pl;exact ⟨o,Heap.get?_push_of_some _ e,c⟩
  ·show b < (s.heap.push _).objs.size;rw [Heap.size_push];rcases List.mem_cons.mp hb with rfl | hb
   ·exact Nat.lt_succ_self _
   ·have e:b=p:=by simpa using hb
    subst e;exact Nat.lt_succ_of_lt hp
  ·refine I.kept λb o e=>kk b o (λhb=> ?_) (Heap.get?_push_of_some _ e)
   have e2:b=s.heap.objs.size:=by simpa using hb
   subst e2;exact absurd (Heap.lt_size e) (Nat.lt_irrefl _)
theorem ZHd (ns:List Int):∀n,n<=ns.length->preSum (λi=>ns.getD i 0) n=(ns.take n).sum
 | 0,_=>by simp [preSum]
 | n + 1,h=>by have hn:n < ns.length:=h;rw [preSum,ZHd ns n (by lia),List.take_succ_eq_append_getElem hn,List.sum_append];simp [hn]
theorem Vp:∀{ns:List Int} {vs:List V},Reps a (ns.map D.int) vs->vs=ns.map V.int
 | [],vs,h=>h
 | n::ns,vs,h=>by
  obtain ⟨v,r,e,h1,h2⟩:=h
  cases (show v=V.int n from h1)
  rw [e,Vp h2]
  rfl
theorem ZHu:∀{ns:List Bool} {vs:List V},Reps a (ns.map D.bl) vs->vs=ns.map V.bl
 | [],vs,h=>h
 | n::ns,vs,h=>by
  obtain ⟨v,r,e,h1,h2⟩:=h
  cases (show v=V.bl n from h1)
  rw [e,ZHu h2]
  rfl
theorem U5 (hc:X.calm=true):CallR X (.builtin "sum") (lRn X.K E H8):=by
 intro pins s σ H vs us Q I rs h;obtain ⟨a,G,ds,hk,rfl,sm,r,q⟩:=h;unfold H8 at q;split at q
 ·rename_i d;obtain ⟨v,rfl,rv⟩:=reps1 r;split at q
  ·rename_i xs hs;split at q
   ·rename_i ns hn;cases T6 hn;obtain ⟨p,ws,rfl,h1,r1⟩:=Lp sm rv hs;cases Vp r1;rw [hk] at h1;obtain ⟨u,rfl,ru⟩:=vals1 rs;cases ru;refine call_sum_walkG (Uy I hc h1 λit fp wr its St s₂ hv W st hfp fin=>⟨it,fp,wr,its.toArray.size,_,St,λi=>ns.getD i 0,rfl,W,st,hfp,λi w hw=> ?_,λh' tk t' kk=> ?_⟩)
    ·have hw':its[i]? =some w:=by simpa using hw
     have hl:i < (ns.map V.int).length:=by rw [hv.length];exact (List.getElem?_eq_some_iff.mp hw').1
     have hl':i < ns.length:=by simpa using hl
     obtain ⟨u,hu,ru⟩:=hv.get (i:=i) (x:=V.int ns[i]) (by simp [hl']);rw [hw'] at hu;cases hu;obtain ⟨t,rfl⟩:=ru;exact ⟨t,by simp [hl']⟩
    ·refine ⟨.int ns.sum,a.H,fin h' tk kk,⟨t',?_⟩,q a _ (Ext.refl a) sm rfl⟩;have hl:its.toArray.size=ns.length:=by rw [List.size_toArray,<-hv.length];simp
     rw [hl,ZHd ns ns.length (Nat.le_refl _),List.take_length]
   ·exact q.elim
  ·exact q.elim
 ·exact q.elim
theorem all_range (ns:List Bool):(List.range ns.length).all (λi=>ns.getD i true)=ns.all id:=by
 rw [Bool.eq_iff_iff,List.all_eq_true,List.all_eq_true];constructor
 ·intro h b hb;obtain ⟨i,hi,rfl⟩:=List.getElem_of_mem hb;simpa [hi] using h i (List.mem_range.mpr hi)
 ·intro h i hi;have hi':i < ns.length:=List.mem_range.mp hi;simpa [hi'] using h ns[i] (List.getElem_mem hi')
theorem ZCs (hc:X.calm=true):CallR X (.builtin "all") (lRn X.K E Nx):=by
 intro pins s σ H vs us Q I rs h;obtain ⟨a,G,ds,hk,rfl,sm,r,q⟩:=h;unfold Nx at q;split at q
 ·rename_i d;obtain ⟨v,rfl,rv⟩:=reps1 r;split at q
  ·rename_i xs hs;split at q
   ·rename_i ns hn;cases ZDQ hn;obtain ⟨p,ws,rfl,h1,r1⟩:=Lp sm rv hs;cases ZHu r1;rw [hk] at h1;obtain ⟨u,rfl,ru⟩:=vals1 rs;cases ru;refine call_all_walk (Uy I hc h1 λit fp wr its St s₂ hv W st hfp fin=>⟨it,fp,wr,its.toArray.size,_,St,λi=>ns.getD i true,rfl,W,st,λi w s' Q' E' hw hQ'=> ?_,λh' tk kk=> ?_⟩)
    ·have hw':its[i]? =some w:=by simpa using hw
     have hl:i < (ns.map V.bl).length:=by rw [hv.length];exact (List.getElem?_eq_some_iff.mp hw').1
     have hl':i < ns.length:=by simpa using hl
     obtain ⟨u,hu,ru⟩:=hv.get (i:=i) (x:=V.bl ns[i]) (by simp [hl']);rw [hw'] at hu;cases hu;cases ru;refine wpAny_truthy_bool ?_;simpa [hl'] using hQ'
    ·refine ⟨.bl (ns.all id),a.H,fin h' tk kk,?_,q a _ (Ext.refl a) sm rfl⟩;have hl:its.toArray.size=ns.length:=by rw [List.size_toArray,<-hv.length];simp
     rw [hl,all_range]
     rfl
   ·exact q.elim
  ·exact q.elim
 ·exact q.elim
end
section
variable {X:Cx} {pins:List (Addr×Obj)} {σ:St} {H:Hp} {s:Shared}
theorem ZA2 {a:Addr} {o:HO} (I:Inv X pins σ H s) (hn:H a=none) (hy:X.s₀.heap.objs.size<=a) (hL:a≠X.env.locals) (hc:∀x c,X.env.cells.lookup x=some c->c≠a) (hp:∀p∈X.pn++pins,p.1≠a)
  (new:ObjOk X.prog X.w (upd H a o) s.heap a o):Inv X pins σ (upd H a o) s:=by
 have ne:∀b u,H b=some u->b≠a:=λb u e z=>by rw [z,hn] at e;cases e
 refine ⟨I.ok,I.os,I.bare,⟨I.base.keep,I.base.slot,λb ob q n hx=> ?_,I.base.there,λb xs q=> ?_,λb ob u q=> ?_,λb ps q=> ?_⟩,I.loc,I.cell,?_,λx c e=> ?_,λp hp'=> ?_,λb u e=> ?_,I.len⟩
 ·rw [Bc (Nat.ne_of_lt (Nat.lt_of_lt_of_le (Heap.lt_size q) hy))];exact I.base.free b ob q n hx
 ·have:=I.base.tups b xs q;rw [Bc (ne _ _ this)];exact this
 ·have:=I.base.frzs b ob u q;rw [Bc (ne _ _ this)];exact this
 ·obtain ⟨more,this⟩:=I.base.tbls b ps q;exact ⟨more,by rw [Bc (ne _ _ this)];exact this⟩
 ·rw [Bc (Ne.symm hL)];exact I.free
 ·rw [Bc (hc x c e)];exact I.Jm x c e
 ·obtain ⟨e1,e2,e3⟩:=I.pin p hp';exact ⟨e1,by rw [Bc (hp p hp')];exact e2,e3⟩
 ·by_cases hb:b=a
  ·subst hb;rw [Gk] at e;cases e;exact new
  ·rw [Bc hb] at e;exact (I.hok b u e).stay (λ_ _ _ q=>q) (λc q=>by rw [Bc (ne _ _ q)];exact q) λc xs q=>by rw [Bc (ne _ _ q)];exact q
end
noncomputable def Gb (env:Env):List (Str×NameKind)->List (Str×Addr)->List (Str×Addr)
 | [],cs=>cs
 | (n,k)::r,cs=>if (k == NameKind.free)=true then Gb env r ((n,(env.cells.lookup n).getD 0)::cs) else Gb env r cs
theorem ZDt (h:∀y∈scope.names,y.2=.free->∃c,env.cells.lookup y.1=some c):closureFor scope env=pure (Gb env scope.names []):=by
 unfold closureFor;obtain ⟨kind,names,g1,g2⟩:=scope;have key:∀(names:List (Str×NameKind)) (cs:List (Str×Addr)),(∀y∈names,y.2=.free->∃c,env.cells.lookup y.1=some c)->
   (forIn names cs (λx r=>match x with
    | (name,kind)=>if (kind == NameKind.free)=true then (do let c<-cellOf env name;pure (ForInStep.yield ((name,c)::r))) else pure (ForInStep.yield r)):Sem (List (Str×Addr)))=pure (Gb env names cs):=by
  intro names
  induction names with
  | nil=>intro cs _;rfl
  | cons y r ih=>
   intro cs hy;obtain ⟨n,k⟩:=y;rw [List.forIn_cons];by_cases hk:(k == NameKind.free)=true
   ·obtain ⟨c,hc⟩:=hy (n,k) List.mem_cons_self (by simpa using hk)
    have e1:cellOf env n=pure c:=by unfold cellOf;rw [show env.cells.lookup n=some c from hc]
    have e2:Gb env ((n,k)::r) cs=Gb env r ((n,c)::cs):=by rw [Gb,if_pos hk,show env.cells.lookup n=some c from hc];rfl
    rw [e2,<-ih ((n,c)::cs) λy' hy'=>hy y' (List.mem_cons_of_mem _ hy')];simp only [hk,if_true,e1]
    rfl
   ·have e2:Gb env ((n,k)::r) cs=Gb env r cs:=by rw [Gb,if_neg hk]
    rw [e2,<-ih cs λy' hy'=>hy y' (List.mem_cons_of_mem _ hy')];simp only [hk]
    rfl
 have:=key names [] h;exact congrArg (λm:Sem (List (Str×Addr))=>m >>=λr=>pure r) this
theorem Yz:∀{names:List (Str×NameKind)} {cs:List (Str×Addr)},(∀y∈names,y.2=.free->∃c,env.cells.lookup y.1=some c)->(∀p∈cs,env.cells.lookup p.1=some p.2)->∀p∈Gb env names cs,env.cells.lookup p.1=some p.2
 | [],cs,_,hc,p,hp=>hc p hp
 | (n,k)::r,cs,hn,hc,p,hp=>by
  rw [Gb] at hp;split at hp
  ·rename_i hk;obtain ⟨c,e⟩:=hn (n,k) List.mem_cons_self (by simpa using hk);refine Yz (λy hy=>hn y (List.mem_cons_of_mem _ hy)) (λq hq=> ?_) p hp;rcases List.mem_cons.mp hq with rfl | hq
   ·rw [show env.cells.lookup n=some c from e];rfl
   ·exact hc q hq
  ·exact Yz (λy hy=>hn y (List.mem_cons_of_mem _ hy)) hc p hp
theorem Wc:∀{names:List (Str×NameKind)} {cs:List (Str×Addr)},((x,.free)∈names∨∃c,(x,c)∈cs)->∃c,(x,c)∈Gb env names cs
 | [],cs,h=>by
  rcases h with h | h
  ·cases h
  ·exact h
 | (n,k)::r,cs,h=>by
  rw [Gb];split
  ·refine Wc ?_;rcases h with h | ⟨c,h⟩
   ·rcases List.mem_cons.mp h with e | h
    ·cases e;exact .inr ⟨_,List.mem_cons_self⟩
    ·exact .inl h
   ·exact .inr ⟨c,List.mem_cons_of_mem _ h⟩
  ·rename_i hk;refine Wc ?_;rcases h with h | h
   ·rcases List.mem_cons.mp h with e | h
    ·cases e;exact absurd rfl hk
    ·exact .inl h
   ·exact .inr h
theorem ZCQ {c:Addr}:∀{l:List (Str×Addr)},(x,c)∈l->∃d,l.lookup x=some d
 | [],h=>by cases h
 | (y,d)::l,h=>by
  by_cases e:x=y
  ·subst e;exact ⟨d,by simp⟩
  ·rcases List.mem_cons.mp h with z | h
   ·cases z;exact absurd rfl e
   ·obtain ⟨d',q⟩:=ZCQ h;exact ⟨d',by rw [List.lookup_cons,beq_eq_false_iff_ne.mpr e];exact q⟩
theorem ZGW (x:Str):(relabel scope env).names.lookup x=(scope.names.lookup x).map λk=>if (k == NameKind.free && env.scope.kind == .function && env.kindOf x == some .cell)=true then .cell else k:=by
 unfold relabel;generalize scope.names=l
 induction l with
 | nil=>rfl
 | cons y r ih=>
  obtain ⟨n,k⟩:=y;by_cases e:x=n
  ·subst e;simp only [List.map_cons]
   cases hc:(k == NameKind.free && env.scope.kind == ScopeKind.function && env.kindOf x == some NameKind.cell) <;>
    simp only [hc,if_true,List.lookup_cons,beq_self_eq_true,Option.map_some,Bool.false_eq_true,if_false]
  ·have hb:(x == n)=false:=beq_eq_false_iff_ne.mpr e;simp only [List.map_cons];split
   ·rw [List.lookup_cons,List.lookup_cons,hb];exact ih
   ·rw [List.lookup_cons,List.lookup_cons,hb];exact ih
noncomputable def blk (X:Cx) (N:List Str) (scope:Scope) (C:Addr) (s₀:Shared) (H₀:Hp) (ex:List Addr):Cx where
 prog:=X.prog
 w:=X.w
 K:=X.K
 mg:=X.mg
 base:=X.base
 A:=X.A
 N:=N
 s₀:=s₀
 H₀:=H₀
 env:=compEnvC scope (Gb X.env scope.names []) C X.env
 outer:=X.stack
 stack:=X.stack
 ex:=ex
 fn:=λ_=>false
 calm:=X.calm
 pn:= []
 xe:=λ_ _=>False
structure CompSc (X:Cx) (N:List Str) (scope:Scope) (nt:Nat) (caps:List Nat):Prop where
 kind:scope.kind=.function
 names:∀y∈scope.names,y.2=.local->scope.names.lookup y.1=some .local
 nocell:∀y∈scope.names,y.2≠ .cell
 free:∀y∈scope.names,y.2=.free->X.env.kindOf y.1=some .cell∨X.env.kindOf y.1=some .free
 nd:N.Nodup
 len:N.length=nt + caps.length
 cap:∀(k j:Nat),caps[k]? =some j->∃x,X.N[j]? =some x/\N[nt + k]? =some x/\scope.names.lookup x=some .free
section
variable {X:Cx} {pins:List (Addr×Obj)} {σ:St} {H:Hp} {s:Shared} {N:List Str} {scope:Scope} {nt:Nat} {caps:List Nat}
theorem CompSc.cells (c:CompSc X N scope nt caps) (ok:X.Ok):∀y∈scope.names,y.2=.free->∃c,X.env.cells.lookup y.1=some c:=λy hy hk=>ok.has y.1 (c.free y hy hk)
theorem CompSc.cl (c:CompSc X N scope nt caps) (ok:X.Ok) {d:Addr} (h:(Gb X.env scope.names []).lookup x=some d):X.env.cells.lookup x=some d:=
 Yz (c.cells ok) (λp hp=>by cases hp) (x,d) (PySem.mem_of_lookup h)
theorem ZMb (c:CompSc X N scope nt caps) (I:Inv X pins σ H s) {fp:List Addr} (hf:∀b∈fp,FpOk X pins H b) {C:Addr} (hC:s.heap.objs.size<=C) (hCf:C ∉ fp):(blk X N scope C s H fp).Ok where
 mod:=I.ok.mod
 kind:=c.kind
 glob:=I.ok.glob
 blt:=I.ok.blt
 above:=hC
 inj:=λx y d h1 h2=>I.ok.inj x y d (c.cl I.ok h1) (c.cl I.ok h2)
 has:=λx h=>by
  have h':(relabel scope X.env).names.lookup x=some .cell∨(relabel scope X.env).names.lookup x=some .free:=h;rw [ZGW] at h';have hfree:scope.names.lookup x=some .free:=by
   cases e:scope.names.lookup x with
   | none=>rw [e] at h';rcases h' with h' | h' <;> cases h'
   | some k=>
    rw [e] at h';cases k with
    | free=>rfl
    | cell=>exact absurd rfl (c.nocell _ (PySem.mem_of_lookup e))
    | _=>rcases h' with h' | h' <;> (simp at h')
  obtain ⟨d,hd⟩:=Wc (env:=X.env) (x:=x) (names:=scope.names) (cs:= []) (.inl (PySem.mem_of_lookup hfree));exact ZCQ hd
 cab:=λx d h=>by cases h
 hd:=I.ok.hd
 frames:=I.ok.frames
 stk:=.inl rfl
 exf:=λb hb=>⟨λz=>hCf (by rw [<-show b=C from z];exact hb),λx d h=>(hf b hb).2.2.2.2.1 x d (c.cl I.ok h)⟩
 bs:=I.bs
 bsz:=Nat.le_trans I.ok.bsz I.sz
 noex:=λb o e hb=>by
  rcases (hf b hb).2.2.2.1 with h | h
  ·exact I.ok.noex b o e h
  ·exact absurd (Nat.lt_of_lt_of_le (Heap.lt_size (I.ok.bs b o e).1) h) (Nat.lt_irrefl _)
 exfs:=λb hb hz=>by
  rcases List.mem_cons.mp (I.Y6 b hz) with z | z
  ·exact (hf b hb).2.1 z
  ·exact (hf b hb).2.2.1 z
 funs:=I.stack
 frf:=I.ZHN
end
noncomputable def Eb (g:DG) (c:DB) (te:DE) (S:DSt):List D->DH->R (List D)
 | [],G=>.ok [] G
 | x::xs,G=>(g x S G).bind λS1 G1=>(c S1 G1).bind λk G2=>
   if k=true then (te S1 G2).bind λd G3=>(Eb g c te S xs G3).bind λds G4=>.ok (d::ds) G4 else Eb g c te S xs G2
noncomputable def Hl (i:Nat) (g:DG) (c:DB) (te:DE) (S:DSt):Nat->Nat->DH->R (List D)
 | 0,j,G=>match G[i]? with
  | some (.lst xs)=>if xs.length<=j then .ok [] G else .bad
  | _=>.bad
 | n + 1,j,G=>match G[i]? with
  | some (.lst xs)=>match xs[j]? with
   | some x=>(g x S G).bind λS1 G1=>(c S1 G1).bind λk G2=>
     if k=true then (te S1 G2).bind λd G3=>(Hl i g c te S n (j + 1) G3).bind λds G4=>.ok (d::ds) G4 else Hl i g c te S n (j + 1) G2
   | none=>.ok [] G
  | _=>.bad
noncomputable def Ec (f:Nat->DH->Option (Option D)) (g:DG) (c:DB) (te:DE) (S:DSt):Nat->Nat->DH->R (List D)
 | 0,j,G=>match f j G with
  | some none=>.ok [] G
  | _=>.bad
 | n + 1,j,G=>match f j G with
  | some (some x)=>(g x S G).bind λS1 G1=>(c S1 G1).bind λk G2=>
     if k=true then (te S1 G2).bind λd G3=>(Ec f g c te S n (j + 1) G3).bind λds G4=>.ok (d::ds) G4 else Ec f g c te S n (j + 1) G2
  | some none=>.ok [] G
  | none=>.bad
noncomputable def Bf (nt:Nat) (caps:List Nat) (S:DSt):DSt:=List.replicate nt none++caps.map λj=>(S[j]?).join
noncomputable def Eh (it:DI) (nt:Nat) (caps:List Nat) (g:DG) (c:DB) (te:DE):DE:=λS G=>(it S G).bind λJ G1=>(match J with
 | .pure xs=>Eb g c te (Bf nt caps S) xs G1
 | .mt i=>match G1[i]? with
  | some (.lst xs)=>Hl i g c te (Bf nt caps S) xs.length 0 G1
  | _=>.bad
 | .fn n f=>Ec f g c te (Bf nt caps S) n 0 G1).bind Ar
noncomputable def Ce:DB:=λ_ G=>.ok true G
noncomputable def GK (nt:Nat) (g:DG):Prop:=∀d S G S1 G1,g d S G=.ok S1 G1->∀i e,nt<=i->S[i]? =some (some e)->S1[i]? =some (some e)
noncomputable def GKs (nt:Nat) (g:DGs):Prop:=∀d S G S1 G1,g d S G=.ok S1 G1->∀i e,nt<=i->S[i]? =some (some e)->S1[i]? =some (some e)
theorem Ek (h:i < nt):GK nt (gV i):=λd S G S1 G1 e j x hj hx=>by cases e;rw [List.getElem?_set_ne (by lia)];exact hx
theorem Rh:GKs nt Cg:=λd S G S1 G1 e j x hj hx=>by
 cases d with
 | nil=>cases e;exact hx
 | cons _ _=>cases e
theorem Jv {t:DG} {u:DGs} (h1:GK nt t) (h2:GKs nt u):GKs nt (Aq t u):=λd S G S1 G1 e j x hj hx=>by
 cases d with
 | nil=>cases e
 | cons a r=>
  have e':(t a S G).bind (λS1 G1=>u r S1 G1)=.ok S1 G1:=e;cases ht:t a S G with
  | ok S2 G2=>rw [ht] at e';exact h2 _ _ _ _ _ e' j x hj (h1 _ _ _ _ _ ht j x hj hx)
  | err _ _=>rw [ht] at e';cases e'
  | bad=>rw [ht] at e';cases e'
theorem Ra {n:Nat} {t:DGs} (h:GKs nt t):GK nt (Bw n t):=λd S G S1 G1 e j x hj hx=>by
 cases d with
 | tup ds=>
  unfold Bw at e;dsimp only at e;split at e
  ·exact h _ _ _ _ _ e j x hj hx
  ·cases e
 | _=>cases e
theorem ZOI {r:R DSt} {f:DSt->DH->R D} (h:out E a (r.bind f) Q):
  Gg E a r (λσ H=>∃(b:Wd) (S:DSt) (G:DH),b.H=H/\Ext a b/\Sim b G/\RepS b S σ/\r=.ok S G/\out E b (f S G) Q):=by
 cases r with
 | ok d G=>exact λb v x s q=>⟨b,d,G,rfl,x,s,q,rfl,out.mono x h⟩
 | err e G=>exact h
 | bad=>exact h
theorem R.bind_assoc {γ:Type} (r:R α) (f:α->DH->R β) (g:β->DH->R γ):(r.bind f).bind g=r.bind λa G=>(f a G).bind g:=by cases r <;> rfl
theorem ZC2 {r:R ItD} {f:ItD->DH->R D} (h:out E a (r.bind f) Q):
  outI E a r (λJ H=>∃(b:Wd) (d:ItD) (G:DH),b.H=H/\Ext a b/\Sim b G/\RepI b d J/\r=.ok d G/\out E b (f d G) Q):=by
 cases r with
 | ok d G=>exact λb v x s q=>⟨b,d,G,rfl,x,s,q,rfl,out.mono x h⟩
 | err e G=>exact h
 | bad=>exact h
section
variable {prog:Program} {w:World} {A:Around} {R':Result->Shared->Prop} {s:Shared}
theorem ZNh {elt target iter:Expr} {ifs:List Expr} {scope:Scope} {pos:Pos} {it acc:Value} {env:Env} (I:Nat->Shared->Prop)
  (turn:∀n s,I n s->wpAny (model prog w) A (pyNext it) (λr s₁=>match r with
   | none=>R' (.ok .next) s₁
   | some v=>wpAny (model prog w) A (letOwnedTupleGo target it v) (λ_ s₁=>wpAny (model prog w) A (assign target env v) (λ_ s₂=>
     wpAny (model prog w) A (forIn ifs true λc r=>if r=true then do let ok<-isTrue c env (eval c env);pure (ForInStep.yield ok) else pure (ForInStep.yield r)) (λok s₃=>
      if ok=true then wpAny (model prog w) A (eval elt env) (λx s₄=>
       wpAny (model prog w) A (call (.builtin "list.append") [acc,x]) (λ_ s₅=>∃m,m < n/\I m s₅) (λ_ _=>False) s₄) (λ_ _=>False) s₃
      else∃m,m < n/\I m s₃) (λ_ _=>False) s₂) (λ_ _=>False) s₁) (λ_ _=>False) s₁) (λ_ _=>False) s)
  (n:Nat) (h:I n s):
  codeAny (model prog w) A (.compLoop (.ListComp elt [⟨target,iter,ifs,0⟩] scope pos) 0 it acc env) R' s:=by
 refine codeAny_loop rfl I (λn s hI=> ?_) n h
 show wpAny _ A ((compTurn (.ListComp elt [⟨target,iter,ifs,0⟩] scope pos) 0 it acc env).onRaise (λx=>do noteFrame x env;theTreesLotGoes x)) _ _ s
 refine wpAny_noted ?_;rw [compTurn_list];refine wpAny_mono ?_ (λ_ _ q=>q) (λ_ _ (f:False)=>f.elim);refine wpAny_bind (wpAny_standAt (wpAny_bind (wpAny_mono (turn n s hI) (λr s₁ h₁=> ?_) λ_ _ h'=>h')));cases r with
 | none=>exact wpAny_pure h₁
 | some v=>
  refine wpAny_bind (wpAny_mono h₁ (λ_ s₂' h₁=> ?_) λ_ _ h'=>h');refine wpAny_bind (wpAny_mono h₁ (λ_ s₂ h₂=>wpAny_bind (wpAny_mono h₂ (λok s₃ h₃=> ?_) λ_ _ h'=>h')) λ_ _ h'=>h');cases ok with
  | false=>exact wpAny_pure ⟨rfl,h₃⟩
  | true=>
   exact wpAny_bind (wpAny_bind (wpAny_mono h₃ (λx s₄ h₄=>wpAny_bind (wpAny_mono h₄ (λ_ s₅ h₅=>wpAny_pure (wpAny_pure ⟨rfl,h₅⟩)) λ_ _ h'=>h')) λ_ _ h'=>h'))
end
noncomputable def QTs (X:Cx) (E:XK) (ifs:List Expr) (t:DB):Prop:=
 ∀(pins:List (Addr×Obj)) (s:Shared) (σ:St) (H:Hp) (Q:Bool->Hp->Prop),Inv X pins σ H s->lB X.K E t σ H Q->
  wpAny (model X.prog X.w) X.A (forIn ifs true λc r=>if r=true then do let ok<-isTrue c X.env (eval c X.env);pure (ForInStep.yield ok) else pure (ForInStep.yield r)) (TP X pins σ Q) X.xe s
theorem Fw:QTs X E [] Ce:=λpins s σ H Q I h=>by obtain ⟨a,S,G,hk,rfl,sm,r,h⟩:=h;exact wpAny_tests_nil ⟨a.H,I,h a (Ext.refl a) sm⟩
theorem ZKT {c:Expr} {t:DB} (hc:QT X E c t):QTs X E [c] t:=λpins s σ H Q I h=>wpAny_tests_one (hc pins s σ H Q I h)
section
variable {X:Cx} {E:XK} {N:List Str} {scope:Scope} {nt:Nat} {caps:List Nat} {tg elt iter:Expr} {ifs:List Expr} {pos:Pos} {it:DI} {g:DG} {c:DB} {te:DE}
theorem ZJ5 (r:RepS a S σ):RepS a (Bf nt caps S) (List.replicate nt none++caps.map λj=>(σ[j]?).join):=by
 refine ⟨by simp [Bf],λi d h=> ?_⟩;unfold Bf at h;by_cases hi:i < nt
 ·rw [List.getElem?_append_left (by simpa using hi),List.getElem?_replicate] at h
  split at h <;> cases h
 ·rw [List.getElem?_append_right (by simpa using hi),List.getElem?_map] at h;rw [List.getElem?_append_right (by simpa using hi),List.getElem?_map];rw [List.length_replicate] at h ⊢;cases e:caps[i - nt]? with
  | none=>rw [e] at h;cases h
  | some j=>
   rw [e] at h;have h1:(S[j]?).join=some d:=by simpa using h
   have h2:S[j]? =some (some d):=by
    cases q:S[j]? with
    | none=>rw [q] at h1;cases h1
    | some o=>
     rw [q] at h1;have h1':o=some d:=h1;rw [h1']
   obtain ⟨v,ev,rv⟩:=r.get j d h2;exact ⟨v,by simp [ev],rv⟩
theorem ZLQ (h:(Bf nt caps S)[i]? =some (some d)):nt<=i:=by
 unfold Bf at h;by_cases hi:i < nt
 ·rw [List.getElem?_append_left (by simpa using hi),List.getElem?_replicate] at h
  split at h <;> cases h
 ·lia
theorem ZAQ (hc:X.calm=true) (cs:CompSc X N scope nt caps)
  (hg:∀C s₀ H₀ ex,QG (blk X N scope C s₀ H₀ ex) E0 tg g) (gk:GK nt g) (hts:∀C s₀ H₀ ex,QTs (blk X N scope C s₀ H₀ ex) E0 ifs c) (he:∀C s₀ H₀ ex,QE (blk X N scope C s₀ H₀ ex) E0 elt te)
  {pins:List (Addr×Obj)} {σ:St} {s:Shared} {a:Wd} {S:DSt} {G:DH} {J:It} {n0:Nat} {f:Nat->DH->Option (Option D)} {i0:Addr} {fp:List Addr} {tn:Nat->Heap->Prop} (I:Inv X pins σ a.H s) (hk:a.K=X.K) (sm:Sim a G) (rS:RepS a S σ)
  (T:Turn X.prog X.w X.K tg J fp i0 tn) (t0:tn 0 s.heap) (hf:∀b∈fp,FpOk X pins a.H b) (rJ:RepI a (.fn n0 f) J) {Q:VK}
  (h:out E0 a ((Ec f g c te (Bf nt caps S) n0 0 G).bind Ar) Q)
  {RR:Value->Addr->Result->Shared->Prop} {E':Value->Shared->Prop}
  (hRR:∀(D C:Addr) (s':Shared) (b:Wd) (vs:List V),Inv X pins σ (upd b.H D (.lst vs)) s'->b.H D=none->s.heap.objs.size<=C->D≠C->(∃m,s'.heap.Ns C m)->b.H C=none->Q (.ref D) (upd b.H D (.lst vs))->RR (.ref D) C (.ok .next) s'):
  wpAny (model X.prog X.w) X.A (newList []) (λacc s₃=>wpAny (model X.prog X.w) X.A (newFunctionEnv scope X.env.globals (Gb X.env scope.names []) [] X.env.qual none .none (some X.env)) (λcenv s₄=>
   codeAny (model X.prog X.w) X.A (.compStart (.ListComp elt [⟨tg,iter,ifs,0⟩] scope pos) 0 (.ref i0) acc {cenv with scope:=relabel scope X.env}) (RR acc cenv.locals) s₄) E' s₃) E' s:=by
 refine wpAny_newObj_type (wpAny_newFunctionEnv cs.nocell (by intro y hy;simp at hy) (λh₁ hns₁ hsb₁=> ?_) cs.kind);dsimp only at hns₁ hsb₁ ⊢;generalize hH2:s.heap.push {cls:=.type "list",dict:=none,data:=.seq ([]:List Value).toArray}=H2 at hns₁ hsb₁ ⊢;have hC:H2.objs.size=s.heap.objs.size + 1:=by rw [<-hH2,Heap.size_push]
 have hDC:s.heap.objs.size≠H2.objs.size:=by rw [hC];exact Nat.ne_of_lt (Nat.lt_succ_self _)
 have hCle:s.heap.objs.size<=H2.objs.size:=by rw [hC];exact Nat.le_succ _
 have fpOld:∀b∈fp,b < s.heap.objs.size:=λb hb=>by obtain ⟨o,e,_⟩:=T.obj 0 _ t0 b hb;exact Heap.lt_size e
 have hDf:s.heap.objs.size ∉ fp:=λhm=>Nat.lt_irrefl _ (fpOld _ hm)
 have hCf:H2.objs.size ∉ fp:=λhm=>by have:=fpOld _ hm;rw [hC] at this;exact Nat.lt_irrefl _ (Nat.lt_of_succ_lt this)
 have old:∀b o,s.heap.get? b=some o->h₁.get? b=some o:=λb o e=>
  hsb₁.extBut b o (by rw [hC];exact Nat.ne_of_lt (Nat.lt_succ_of_lt (Heap.lt_size e))) (Heap.get?_push_of_some _ (hH2 ▸ Heap.get?_push_of_some _ e))
 have hacc:h₁.PlainList s.heap.objs.size ([]:List Value).toArray:=⟨_,hsb₁.extBut _ _ hDC (Heap.get?_push_of_some _ (hH2 ▸ Heap.get?_push_size _ rfl))⟩;generalize hCe:H2.objs.size=C at *;generalize hDe:s.heap.objs.size=Dd at *;let B:=blk X N scope C s a.H fp;have okB:B.Ok:=ZMb cs I hf (by rw [hDe];exact hCle) hCf;let σ0:St:=List.replicate nt none++caps.map λj=>(σ[j]?).join
 have start:∀tk,Inv B [] σ0 a.H {s with heap:=h₁,toks:=tk}:=λtk=>by
  refine ⟨okB,rfl,I.bare,Un.kept old,⟨_,hns₁,λi x v e1 e2 e3=> ?_⟩,λx d' e=> ?_,I.hok.fresh (by rw [hDe];exact hCle),λx d' e=> ?_,λp hp=> ?_,I.hok.kept old,?_⟩
  ·have hi:nt<=i:=by
    by_cases hi:i < nt
    ·have e2':σ0[i]? =some (some v):=e2;rw [List.getElem?_append_left (by simpa using hi),List.getElem?_replicate] at e2'
     split at e2' <;> cases e2'
    ·lia
   have e2':σ0[i]? =some (some v):=e2;rw [List.getElem?_append_right (by simpa using hi),List.getElem?_map,List.length_replicate] at e2';cases ej:caps[i - nt]? with
   | none=>rw [ej] at e2';cases e2'
   | some j=>
    rw [ej] at e2';have h1:(σ[j]?).join=some v:=by simpa using e2'
    have h2:σ[j]? =some (some v):=by
     cases q:σ[j]? with
     | none=>rw [q] at h1;cases h1
     | some o=>
      rw [q] at h1;have h1':o=some v:=h1;rw [h1']
    obtain ⟨y,ey,en,ek⟩:=cs.cap (i - nt) j ej;have exy:x=y:=by
     have:nt + (i - nt)=i:=by lia
     rw [this] at en;have e1':N[i]? =some x:=e1;rw [e1'] at en;exact Option.some.inj en
    subst exy;have kx:=cs.free (x,.free) (PySem.mem_of_lookup ek) rfl;have vis:Vis X.env.scope x:=by
     rcases kx with kx | kx
     ·exact .inr (.inl kx)
     ·exact .inr (.inr kx)
    obtain ⟨m,hn,hl⟩:=I.loc;obtain ⟨u,ru,lk⟩:=hl j x v ey h2 vis;refine ⟨u,ru,?_⟩;rcases lk with ⟨k1,_⟩ | ⟨k1,c1,ec,hcell⟩
    ·rcases kx with kx | kx
     ·rw [k1] at kx;cases kx
     ·rw [k1] at kx;cases kx
    ·refine .inr ⟨?_,c1,?_,?_⟩
     ·show (relabel scope X.env).names.lookup x=some .cell∨(relabel scope X.env).names.lookup x=some .free;rw [ZGW,ek];simp only [Option.map_some];split
      ·exact .inl rfl
      ·exact .inr rfl
     ·obtain ⟨d1,hd1⟩:=Wc (env:=X.env) (x:=x) (names:=scope.names) (cs:= []) (.inl (PySem.mem_of_lookup ek));obtain ⟨d2,hd2⟩:=ZCQ hd1;have:=cs.cl I.ok hd2;rw [ec] at this;cases this;exact hd2
     ·obtain ⟨o,e,dd⟩:=hcell;exact ⟨o,old _ _ e,dd⟩
  ·obtain ⟨v,o,e',dd⟩:=I.cell x d' (cs.cl I.ok e);exact ⟨v,o,old _ _ e',dd⟩
  ·exact I.Jm x d' (cs.cl I.ok e)
  ·exact absurd hp (by simp [B,blk])
  ·show σ0.length=N.length;rw [cs.len];simp [σ0]
 have rS0:RepS a (Bf nt caps S) σ0:=ZJ5 rS;have aD:a.H Dd=none:=I.hok.fresh (by rw [hDe];exact Nat.le_refl _);have young:∀b∈fp,b≠C:=λb hb z=>hCf (z ▸ hb)
 have fpB:∀{H':Hp} {ps:List (Addr×Obj)},(∀b∈fp,H' b=none)->(∀p∈ps,p.1 ∉ fp)->∀b∈fp,FpOk B ps H' b:=λ{H' ps} hn hps b hb=>
  ⟨hn b hb,young b hb,okB.exfs b hb,.inl hb,λx d' e=>(hf b hb).2.2.2.2.1 x d' (cs.cl I.ok e),λp hp z=>by
   have hp':p∈ps:=by simpa [B,blk] using hp
   exact hps p hp' (z ▸ hb)⟩
 have nstk:Dd ∉ frs X.stack:=λz=>by
  rcases List.mem_cons.mp (I.Y6 Dd z) with z | z
  ·have:=I.lt;rw [hDe,<-z] at this;exact Nat.lt_irrefl _ this
  ·exact I.nofs (by rw [hDe];exact Nat.le_refl _) z
 have pinD:∀{σ':St} {H':Hp} {s':Shared} {its:List Value} {nD:Nat},Inv B [] σ' H' s'->s'.heap.get? Dd=some {cls:=.type "list",data:=.seq its.toArray nD}->H' Dd=none->Inv B [(Dd,{cls:=.type "list",data:=.seq its.toArray nD})] σ' H' s':=λ{σ' H' s' its nD} J e n=>
  J.M4 λp hp=>by
   have ep:p=(Dd,{cls:=.type "list",data:=.seq its.toArray nD}):=by simpa using hp
   subst ep;exact ⟨e,n,hDC,nstk,λv' z=>by cases z⟩
 have fin:∀(s':Shared) (b:Wd) (σ':St) (its:List Value) (ds:List D) (G':DH),Inv B [] σ' b.H s'->Ext a b->Sim b G'->s'.heap.PlainList Dd its.toArray->b.H Dd=none->(∃vs,Vals vs its/\Reps b ds vs)->out E0 b (Ar ds G') Q->RR (.ref Dd) C (.ok .next) s':=by
  intro s' b σ' its ds G' IB x sb pl hD ⟨vs,hv,rv⟩ hq;have hz:ds.length<=1000000:=by
   unfold Ar at hq;split at hq
   ·assumption
   ·exact hq.elim
  have Ix:Inv X pins σ b.H s':=I.call' IB.os IB.base IB.hok IB.bare λb hb=>⟨(hf b hb).2.2.2.1,(hf b hb).2.1,(hf b hb).2.2.2.2.1,(hf b hb).2.2.2.2.2⟩
  obtain ⟨n,eD⟩:=pl;have ylt:∀{q:Addr} {o:Obj},s.heap.get? q=some o->q≠Dd:=λe z=>by rw [z,<-hDe] at e;exact absurd (Heap.lt_size e) (Nat.lt_irrefl _)
  have Ia:Inv X pins σ (upd b.H Dd (.lst vs)) s':=by
   refine ZA2 Ix hD (by rw [<-hDe];exact I.sz) ?_ (λy c' ec=> ?_) (λp hp=> ?_) ⟨?_,its,n,hv,eD⟩
   ·rw [<-hDe];exact Nat.ne_of_gt I.lt
   ·obtain ⟨v,o,e,_⟩:=I.cell y c' ec;exact ylt e
   ·exact ylt (I.pin p hp).1
   ·rw [<-rv.length];exact Nat.le_trans hz size6
  refine hRR Dd C s' b vs Ia hD hCle hDC (let ⟨m,hn,_⟩:=IB.loc;⟨m,hn⟩) IB.free ?_;unfold Ar at hq;rw [if_pos hz] at hq;exact Ls sb rv hq Dd hD
 have turnX:∀(n:Nat) (P:Nat->Shared->Prop) (rest:DH->R (List D)) (s1:Shared) (b:Wd) (G1:DH) (σ1:St) (its:List Value) (acc:List D) (u:Value) (v:V) (x:D) (i:Nat),Inv B [] σ1 b.H s1->Ext a b->Sim b G1->RepS b (Bf nt caps S) σ1->tn i s1.heap->(∀q∈fp,b.H q=none)->
   s1.heap.PlainList Dd its.toArray->b.H Dd=none->(∃vs,Vals vs its/\Reps b acc vs)->RelV v u->Rep b x v->
   out E0 b (((g x (Bf nt caps S) G1).bind λS1 G1=>(c S1 G1).bind λk G2=>if k=true then (te S1 G2).bind λd G3=>(rest G3).bind λds G4=>.ok (d::ds) G4 else rest G2).bind λds G=>Ar (acc++ds) G) Q->
   (∀(s2:Shared) (b2:Wd) (G2:DH) (σ2:St) (its2:List Value) (acc2:List D),Inv B [] σ2 b2.H s2->Ext a b2->Sim b2 G2->RepS b2 (Bf nt caps S) σ2->tn i s2.heap->(∀q∈fp,b2.H q=none)->
    s2.heap.PlainList Dd its2.toArray->b2.H Dd=none->(∃vs,Vals vs its2/\Reps b2 acc2 vs)->out E0 b2 ((rest G2).bind λds G=>Ar (acc2++ds) G) Q->∃m,m < n/\P m s2)->
   wpAny (model X.prog X.w) X.A (assign tg B.env u) (λ_ s₂=>
     wpAny (model X.prog X.w) X.A (forIn ifs true λc r=>if r=true then do let ok<-isTrue c B.env (eval c B.env);pure (ForInStep.yield ok) else pure (ForInStep.yield r)) (λok s₃=>
      if ok=true then wpAny (model X.prog X.w) X.A (eval elt B.env) (λx s₄=>
       wpAny (model X.prog X.w) X.A (call (.builtin "list.append") [.ref Dd,x]) (λ_ s₅=>∃m,m < n/\P m s₅) (λ_ _=>False) s₄) (λ_ _=>False) s₃
      else∃m,m < n/\P m s₃) (λ_ _=>False) s₂) (λ_ _=>False) s1:=by
  intro n P rest s1 b G1 σ1 its acc u v x i I1 x1 sb rSb t1 hfp pl hD hacc' ru rx hq next
  rw [R.bind_assoc] at hq;obtain ⟨nD,eD⟩:=id pl;let pinD:List (Addr×Obj):= [(Dd,{cls:=.type "list",data:=.seq its.toArray nD})];have pinOk:∀{σ':St} {H':Hp} {s':Shared},Inv B (pinD++Pb fp s1.heap) σ' H' s'->s'.heap.PlainList Dd its.toArray/\H' Dd=none/\tn i s'.heap/\∀q∈fp,H' q=none:=λ{σ' H' s'} J=>by
   have p1:=J.pin (Dd,{cls:=.type "list",data:=.seq its.toArray nD}) (List.mem_append_right _ (List.mem_append_left _ (by simp [pinD])));refine ⟨⟨nD,p1.1⟩,p1.2.1,T.keep _ _ _ t1 λq hq' o e=>(J.pin (q,o) (List.mem_append_right _ (List.mem_append_right _ (W8 hq' e)))).1,λq hq'=> ?_⟩;obtain ⟨o,e,_⟩:=T.obj _ _ t1 q hq';exact (J.pin (q,o) (List.mem_append_right _ (List.mem_append_right _ (W8 hq' e)))).2.1
  have I2:Inv B (pinD++Pb fp s1.heap) σ1 b.H s1:=I1.M4 λp hp=>by
   rcases List.mem_append.mp hp with hp | hp
   ·have e:p=(Dd,{cls:=.type "list",data:=.seq its.toArray nD}):=by simpa [pinD] using hp
    subst e;refine ⟨eD,hD,hDC,λz=> ?_,λv' z=>by cases z⟩;exact nstk z
   ·obtain ⟨hb,e⟩:=ZHo hp;obtain ⟨f0,f1,f2,_⟩:=fpB (ps:= []) hfp (λp hp=>by cases hp) p.1 hb;obtain ⟨o,e',dd⟩:=T.obj _ _ t1 p.1 hb;rw [e] at e';cases e';exact ⟨e,f0,f1,f2,dd⟩
  refine thn (hg C s a.H fp _ s1 σ1 b.H v u _ I2 ru ⟨b,Bf nt caps S,G1,x,x1.k.trans hk,rfl,sb,rSb,rx,(ZOI hq).imp λ_ _ z=>z⟩) ?_;rintro _ s2 ⟨σ2,H2',J2,b2,S2,G2,rfl,y2,sb2,rS2,eg,hq2⟩;rw [R.bind_assoc] at hq2;have rS2':RepS b2 (Bf nt caps S) σ2:=⟨by have h1:=J2.len;have h2:σ1.length=N.length:=I1.len;rw [rSb.len,h2];exact h1.symm,λj e' hj=>rS2.get j e' (gk _ _ _ _ _ eg j e' (ZLQ hj) hj)⟩
  refine thn (hts C s a.H fp _ s2 σ2 b2.H _ J2 ⟨b2,S2,G2,y2.k.trans (x1.k.trans hk),rfl,sb2,rS2,(ZEh hq2).imp λ_ _ z=>z⟩) ?_;rintro k s3 ⟨H3,J3,b3,G3,rfl,y3,sb3,_,hq3⟩;cases k with
  | false=>
   obtain ⟨p1,p2,p3,p4⟩:=pinOk J3;have Jn:Inv B [] σ2 b3.H s3:=J3.M4 λp hp=>by cases hp
   obtain ⟨vs,hv,rv⟩:=hacc'
   exact next s3 b3 G3 σ2 its acc Jn (x1.trans (y2.trans y3)) sb3 (rS2'.mono y3) p3 p4 p1 p2 ⟨vs,hv,(rv.mono y2).mono y3⟩ hq3
  | true=>
   have hq3':out E0 b3 (((te S2 G3).bind λd G3=>(rest G3).bind λds G4=>.ok (d::ds) G4).bind λds G=>Ar (acc++ds) G) Q:=hq3;rw [R.bind_assoc] at hq3';refine thn (he C s a.H fp _ s3 σ2 b3.H _ J3 ⟨b3,S2,G3,y3.k.trans (y2.k.trans (x1.k.trans hk)),rfl,sb3,rS2.mono y3,(Gh hq3').imp λ_ _ z=>z⟩) ?_;rintro w s4 ⟨vw,H4,J4,rw',b4,d4,G4,rfl,y4,sb4,q4,_,hq4⟩;obtain ⟨p1,p2,p3,p4⟩:=pinOk J4;rw [R.bind_assoc] at hq4
   have hq4':out E0 b4 ((rest G4).bind λds G=>Ar ((acc++ [d4])++ds) G) Q:=by
    have e:(λ(ds:List D) (G:DH)=>(R.ok (d4::ds) G).bind λds G=>Ar (acc++ds) G)=λds G=>Ar ((acc++ [d4])++ds) G:=by funext ds G;simp
    rw [<-e];exact hq4
   obtain ⟨vs,hv,rv⟩:=hacc';have hsz:its.toArray.size<=sizeLine:=by
    have:acc.length<=1000000:=by
     cases hr:rest G4 with
     | ok ds G5=>
      rw [hr] at hq4';have hq5:out E0 b4 (Ar ((acc++ [d4])++ds) G5) Q:=hq4';unfold Ar at hq5;split at hq5
      ·rename_i hl;simp at hl;lia
      ·exact hq5.elim
     | err e' G5=>rw [hr] at hq4';exact hq4'.elim
     | bad=>rw [hr] at hq4';exact hq4'.elim
    rw [List.size_toArray,<-hv.length,<-rv.length];exact Nat.le_trans this size6
   refine wpAny_list_append_plain p1 (λh' hpl hsb=> ?_) hsz;have Jn:Inv B [] σ2 b4.H s4:=J4.M4 λp hp=>by cases hp
   have J5:Inv B [] σ2 b4.H {s4 with heap:=h'}:=by refine Jn.turned (it:=Dd) (t':=s4.toks) (λq o hq' e=>(hsb.2 q hq').trans e) p2 hDC (.inr (by show s.heap.objs.size<=Dd;rw [hDe];exact Nat.le_refl _)) (λy c' ec=> ?_) (λp hp=>absurd hp (by simp [B,blk]));obtain ⟨v',o,e,_⟩:=I.cell y c' (cs.cl I.ok ec);intro z;rw [z,<-hDe] at e;exact absurd (Heap.lt_size e) (Nat.lt_irrefl _)
   refine next _ b4 G4 σ2 (its++ [w]) (acc++ [d4]) J5 (x1.trans (y2.trans (y3.trans y4))) sb4 ((rS2'.mono y3).mono y4) (T.keep _ _ _ p3 λq hq' o e=>(hsb.2 q (λz=>hDf (z ▸ hq'))).trans e) p4 (by simpa using hpl) p2 ⟨vs++ [vw],hv.append (.cons rw' .nil),(((rv.mono y2).mono y3).mono y4).append (Reps.cons q4 Reps.nil)⟩ hq4'
 have loop:∀s₃:Shared,s₃={s with heap:=h₁,toks:=s.toks + ([]:List (Str×Value)).length}->
   codeAny (model X.prog X.w) X.A (.compLoop (.ListComp elt [⟨tg,iter,ifs,0⟩] scope pos) 0 (.ref i0) (.ref Dd) B.env) (RR (.ref Dd) C) s₃:=by
  rintro s₃ rfl;have t1:tn 0 h₁:=T.keep _ _ _ t0 λq _ o e=>old q o e
  have fp0:∀q∈fp,a.H q=none:=λq hq=>(hf q hq).1
  have walk:∀b:Wd,Ext a b->∀G,Sim b G->∀i,(∀d,f i G=some (some d)->J.go i b.H/\∀x H',J.yld i b.H x H'->∃c:Wd,c.H=H'/\Ext b c/\Sim c G/\Rep c d x)/\(f i G=some none->J.stop i b.H):=rJ;refine ZNh (λm s'=>∃(i:Nat) (b:Wd) (G':DH) (σ':St) (its:List Value) (acc:List D),Inv B [] σ' b.H s'/\Ext a b/\Sim b G'/\RepS b (Bf nt caps S) σ'/\tn i s'.heap/\(∀q∈fp,b.H q=none)/\s'.heap.PlainList Dd its.toArray/\b.H Dd=none/\(∃vs,Vals vs its/\Reps b acc vs)/\
   out E0 b ((Ec f g c te (Bf nt caps S) m i G').bind λds G=>Ar (acc++ds) G) Q) ?_ n0 ⟨0,a,G,σ0,[],[],start _,Ext.refl a,sm,rS0,t1,fp0,hacc,aD,⟨[],.nil,rfl⟩,by simpa using h⟩
  rintro m s' ⟨i,b,G',σ',its,acc,IB,x,sb,rSb,ti,hfp,pl,hD,hac,hq⟩;obtain ⟨nD,eD⟩:=pl;have I0:=pinD IB eD hD;have f0:=fpB (ps:= [(Dd,{cls:=.type "list",data:=.seq its.toArray nD})]) hfp (λp hp=>by
   have ep:p=(Dd,{cls:=.type "list",data:=.seq its.toArray nD}):=by simpa using hp
   subst ep;exact hDf)
  have stop:J.stop i b.H->out E0 b (Ar acc G') Q->wpAny (model X.prog X.w) X.A (pyNext (.ref i0)) (λr s₁=>match r with
    | none=>RR (.ref Dd) C (.ok .next) s₁
    | some v=>wpAny (model X.prog X.w) X.A (letOwnedTupleGo tg (.ref i0) v) (λ_ s₁=>wpAny (model X.prog X.w) X.A (assign tg B.env v) (λ_ s₂=>
     wpAny (model X.prog X.w) X.A (forIn ifs true λc r=>if r=true then do let ok<-isTrue c B.env (eval c B.env);pure (ForInStep.yield ok) else pure (ForInStep.yield r)) (λok s₃=>
      if ok=true then wpAny (model X.prog X.w) X.A (eval elt B.env) (λx s₄=>
       wpAny (model X.prog X.w) X.A (call (.builtin "list.append") [.ref Dd,x]) (λ_ s₅=>∃m',m' < m/\∃(i:Nat) (b:Wd) (G':DH) (σ':St) (its:List Value) (acc:List D),Inv B [] σ' b.H s₅/\Ext a b/\Sim b G'/\RepS b (Bf nt caps S) σ'/\tn i s₅.heap/\(∀q∈fp,b.H q=none)/\s₅.heap.PlainList Dd its.toArray/\b.H Dd=none/\(∃vs,Vals vs its/\Reps b acc vs)/\
        out E0 b ((Ec f g c te (Bf nt caps S) m' i G').bind λds G=>Ar (acc++ds) G) Q) (λ_ _=>False) s₄) (λ_ _=>False) s₃
      else∃m',m' < m/\∃(i:Nat) (b:Wd) (G':DH) (σ':St) (its:List Value) (acc:List D),Inv B [] σ' b.H s₃/\Ext a b/\Sim b G'/\RepS b (Bf nt caps S) σ'/\tn i s₃.heap/\(∀q∈fp,b.H q=none)/\s₃.heap.PlainList Dd its.toArray/\b.H Dd=none/\(∃vs,Vals vs its/\Reps b acc vs)/\
        out E0 b ((Ec f g c te (Bf nt caps S) m' i G').bind λds G=>Ar (acc++ds) G) Q) (λ_ _=>False) s₂) (λ_ _=>False) s₁) (λ_ _=>False) s₁) (λ_ _=>False) s':=by
   intro st hq';refine thn (T.done B rfl rfl rfl hc i _ s' σ' b.H _ I0 f0 ti st) ?_;rintro r s1 ⟨rfl,I2⟩;have pD:=(I2.pin (Dd,{cls:=.type "list",data:=.seq its.toArray nD}) (List.mem_append_right _ (by simp))).1;exact fin s1 b σ' its acc G' (I2.M4 λp hp=>by cases hp) x sb ⟨nD,pD⟩ hD hac hq'
  cases m with
  | zero=>
   unfold Ec at hq;split at hq
   ·rename_i hf;exact stop ((walk b x G' sb i).2 hf) (by have hq':out E0 b (Ar (acc++ []) G') Q:=hq;rw [List.append_nil] at hq';exact hq')
   ·exact hq.elim
  | succ m=>
   unfold Ec at hq;split at hq
   ·rename_i d1 hf;obtain ⟨go,yl⟩:=(walk b x G' sb i).1 d1 hf;refine thn (T.item B rfl rfl rfl hc i _ s' σ' b.H _ I0 f0 ti go) ?_;rintro r s1 ⟨u,rfl,hgo⟩;refine thn hgo ?_;rintro _ s2 ⟨v,H',I2,ru,y,t2,hfp2⟩;obtain ⟨cc,rfl,xx,ss,rd⟩:=yl v H' y;have pD:=I2.pin (Dd,{cls:=.type "list",data:=.seq its.toArray nD}) (List.mem_append_right _ (by simp));obtain ⟨vs1,hv1,rv1⟩:=hac;refine turnX _ _ (λG3=>Ec f g c te (Bf nt caps S) m (i + 1) G3) s2 cc G' σ' its acc u _ d1 (i + 1) (I2.M4 λp hp=>by cases hp) (x.trans xx) ss (rSb.mono xx) t2 hfp2 ⟨nD,pD.1⟩ pD.2.1 ⟨vs1,hv1,rv1.mono xx⟩ ru rd (out.mono xx hq) ?_
    intro s3 b3 G3 σ3 its3 acc3 a1 a2 a3 a4 a5 a6 a7 a8 a9 a10;exact ⟨m,Nat.lt_succ_self _,i + 1,b3,G3,σ3,its3,acc3,a1,a2,a3,a4,a5,a6,a7,a8,a9,a10⟩
   ·rename_i hf;exact stop ((walk b x G' sb i).2 hf) (by have hq':out E0 b (Ar (acc++ []) G') Q:=hq;rw [List.append_nil] at hq';exact hq')
   ·exact hq.elim
 exact codeAny_compStart_list (loop _ rfl) (T.self _ 0 _ _ _ (T.keep _ _ _ t0 λq _ o e=>old q o e) (loop _ rfl))
theorem ZAh:∀(n j:Nat) (G:DH),j + n=xs.length->Eb g c te S (xs.drop j) G=Ec (λj _=>some xs[j]?) g c te S n j G
 | 0,j,G,h=>by
  rw [List.drop_of_length_le (by lia)]
  show _=(match some xs[j]? with | some none=>R.ok [] G | _=>.bad)
  rw [List.getElem?_eq_none (by lia)]
  rfl
 | n + 1,j,G,h=>by
  have hj:j < xs.length:=by lia
  rw [List.drop_eq_getElem_cons hj]
  show (g xs[j] S G).bind _=(match some xs[j]? with | some (some x)=>_ | some none=>R.ok [] G | none=>.bad)
  rw [List.getElem?_eq_getElem hj];dsimp only
  congr 1
  funext S1 G1
  congr 1
  funext k G2;rw [ZAh n (j + 1) G2 (by lia)]
  congr 1
  congr 1
  funext d G3;rw [ZAh n (j + 1) G3 (by lia)]
theorem ZFs:∀(n j:Nat) (G:DH),Hl i g c te S n j G=Ec (mtF i) g c te S n j G
 | 0,j,G=>by
  unfold Hl Ec mtF;cases G[i]? with
  | none=>rfl
  | some o=>
   cases o with
   | lst xs=>
    dsimp only;by_cases hj:j < xs.length
    ·rw [if_neg (by lia),List.getElem?_eq_getElem hj]
    ·rw [if_pos (by lia),List.getElem?_eq_none (by lia)]
   | _=>rfl
 | n + 1,j,G=>by
  have ih:(Hl i g c te S n (j + 1))=Ec (mtF i) g c te S n (j + 1):=funext λG=>ZFs n (j + 1) G
  unfold Hl Ec;rw [ih];unfold mtF;cases G[i]? with
  | none=>rfl
  | some o=>
   cases o with
   | lst xs=>
    dsimp only
    cases xs[j]? <;> rfl
   | _=>rfl
theorem ZDa (hc:X.calm=true) (cs:CompSc X N scope nt caps)
  (hg:∀C s₀ H₀ ex,QG (blk X N scope C s₀ H₀ ex) E0 tg g) (gk:GK nt g) (hts:∀C s₀ H₀ ex,QTs (blk X N scope C s₀ H₀ ex) E0 ifs c) (he:∀C s₀ H₀ ex,QE (blk X N scope C s₀ H₀ ex) E0 elt te)
  {pins:List (Addr×Obj)} {σ:St} {s:Shared} {a:Wd} {S:DSt} {G:DH} {J:It} {d:ItD} {i0:Addr} {fp:List Addr} {tn:Nat->Heap->Prop} (I:Inv X pins σ a.H s) (hk:a.K=X.K) (sm:Sim a G) (rS:RepS a S σ)
  (T:Turn X.prog X.w X.K tg J fp i0 tn) (t0:tn 0 s.heap) (hf:∀b∈fp,FpOk X pins a.H b) (rJ:RepI a d J) {Q:VK}
  (h:out E0 a ((match d with
   | .pure xs=>Eb g c te (Bf nt caps S) xs G
   | .mt i=>match G[i]? with
    | some (.lst xs)=>Hl i g c te (Bf nt caps S) xs.length 0 G
    | _=>.bad
   | .fn n f=>Ec f g c te (Bf nt caps S) n 0 G).bind Ar) Q)
  {RR:Value->Addr->Result->Shared->Prop} {E':Value->Shared->Prop}
  (hRR:∀(D C:Addr) (s':Shared) (b:Wd) (vs:List V),Inv X pins σ (upd b.H D (.lst vs)) s'->b.H D=none->s.heap.objs.size<=C->D≠C->(∃m,s'.heap.Ns C m)->b.H C=none->Q (.ref D) (upd b.H D (.lst vs))->RR (.ref D) C (.ok .next) s'):
  wpAny (model X.prog X.w) X.A (newList []) (λacc s₃=>wpAny (model X.prog X.w) X.A (newFunctionEnv scope X.env.globals (Gb X.env scope.names []) [] X.env.qual none .none (some X.env)) (λcenv s₄=>
   codeAny (model X.prog X.w) X.A (.compStart (.ListComp elt [⟨tg,iter,ifs,0⟩] scope pos) 0 (.ref i0) acc {cenv with scope:=relabel scope X.env}) (RR acc cenv.locals) s₄) E' s₃) E' s:=by
 cases d with
 | pure xs=>
  have h':out E0 a ((Eb g c te (Bf nt caps S) (xs.drop 0) G).bind Ar) Q:=h;rw [ZAh xs.length 0 G (by lia)] at h';exact ZAQ hc cs hg gk hts he I hk sm rS T t0 hf (ZFO rJ) h' hRR
 | mt k=>
  dsimp only at h;split at h
  ·rename_i xs hx;rw [ZFs] at h;exact ZAQ hc cs hg gk hts he I hk sm rS T t0 hf (ZF9 rJ) h hRR
  ·exact h.elim
 | fn n0 f=>exact ZAQ hc cs hg gk hts he I hk sm rS T t0 hf rJ h hRR
end
section
variable {X:Cx} {N:List Str} {scope:Scope} {nt:Nat} {caps:List Nat} {tg elt iter:Expr} {ifs:List Expr} {pos:Pos} {it:DI} {g:DG} {c:DB} {te:DE}
theorem letGo {pins:List (Addr×Obj)} {s2 s':Shared} {h':Heap} {C:Addr} {t':Nat} {σ2:St} {H2:Hp} (I2:Inv X pins σ2 H2 s2) (Ia:Inv X pins σ H s') (hC:s2.heap.objs.size<=C) (hn:H C=none) (hsb:Heap.SameBut C s'.heap h'):Inv X pins σ H {s' with heap:=h',toks:=t'}:=by
 have young:∀{b:Addr} {o:Obj},s2.heap.get? b=some o->b≠C:=λe z=>by rw [z] at e;exact absurd (Nat.lt_of_lt_of_le (Heap.lt_size e) hC) (Nat.lt_irrefl _)
 refine Ia.turned (it:=C) (λb o hb e=>(hsb.2 b hb).trans e) hn (Nat.ne_of_gt (Nat.lt_of_lt_of_le I2.lt hC)) (.inr (Nat.le_trans I2.sz hC)) (λx c' e=> ?_) λp hp=> ?_
 ·obtain ⟨v,o,e',_⟩:=I2.cell x c' e;exact young e'
 ·exact young (I2.pin p hp).1
theorem Hh (hc:X.calm=true) (cs:CompSc X N scope nt caps) (hi:QI X E0 tg iter it)
  (hg:∀C s₀ H₀ ex,QG (blk X N scope C s₀ H₀ ex) E0 tg g) (gk:GK nt g) (hts:∀C s₀ H₀ ex,QTs (blk X N scope C s₀ H₀ ex) E0 ifs c) (he:∀C s₀ H₀ ex,QE (blk X N scope C s₀ H₀ ex) E0 elt te)
  (hs:∀x,foldedSetIterable iter X.env x=pure x:=by intro _;rfl):QE X E0 (.ListComp elt [⟨tg,iter,ifs,0⟩] scope pos) (Eh it nt caps g c te):=by
 intro pins s σ H Q I h;obtain ⟨a,S,G,hk,rfl,sm,r,h⟩:=h;rw [eval_ListComp];refine wpAny_comprehension_free (use:=none) rfl hs (ZDt (cs.cells I.ok)) cs.kind cs.names (thn (hi pins s σ a.H _ I ⟨a,S,G,hk,rfl,sm,r,(ZC2 h).imp λ_ _ z=>z⟩) λxv s1 h1=>thn h1 λitv s2 h2=> ?_);obtain ⟨i0,fp,tn,J,H2,rfl,I2,T,t0,f2,b,d,G1,rfl,x,sb,rJ,_,h1⟩:=h2;refine ZDa hc cs hg gk hts he I2 (x.k.trans hk) sb (r.mono x) T t0 f2 rJ h1 (RR:=λacc C=>compPost (model X.prog X.w) X.A X.xe none (EP X pins σ Q) acc C) ?_
 intro D C s' b vs Ia hD hCle hDC ⟨m,hn⟩ hCn hq;refine ⟨m,hn,λh' hsb=>⟨.ref D,_,letGo I2 Ia hCle ?_ hsb,rfl,hq⟩⟩;rw [Bc (Ne.symm hDC)];exact hCn
theorem U0 (i:Nat) {y:Str} {py spos:Pos} (hc:X.calm=true) (hN:X.N.Nodup) (cs:CompSc X N scope nt caps) (hi:QI X E0 tg iter it)
  (hg:∀C s₀ H₀ ex,QG (blk X N scope C s₀ H₀ ex) E0 tg g) (gk:GK nt g) (hts:∀C s₀ H₀ ex,QTs (blk X N scope C s₀ H₀ ex) E0 ifs c) (he:∀C s₀ H₀ ex,QE (blk X N scope C s₀ H₀ ex) E0 elt te)
  (hy:X.N[i]? =some y:=by rfl) (hx:Loc X.env.scope y:=by first | exact Or.inl rfl | exact Or.inr rfl) (hf:X.fn y=true∨X.env.scope.names.lookup y=some .local:=by first | exact .inl rfl | exact .inr rfl | assumption)
  (hsw:swapsWith (.ListComp elt [⟨tg,iter,ifs,0⟩] scope pos) (some (.Name y py)) spos.line X.env=pure true:=by rfl)
  (hs:∀x,foldedSetIterable iter X.env x=pure x:=by intro _;rfl):QS X E0 (.Assign [.Name y py] (.ListComp elt [⟨tg,iter,ifs,0⟩] scope pos) spos) (sAs (Eh it nt caps g c te) (gV i)):=by
 intro pins s σ H W I h;obtain ⟨a,S,G,hk,rfl,sm,r,h⟩:=h;have h0:=Iw h;rw [exec_Assign_Name_used _ _ _ _ hsw];refine wpAny_bind (wpAny_standAt (wpAny_bind ?_))
 show wpAny _ X.A (do let _<-comprehension (.ListComp elt [⟨tg,iter,ifs,0⟩] scope pos) scope X.env _ (newList []) false (eval iter X.env) (some (assign (.Name y py) X.env))) _ _ s
 refine wpAny_bind (wpAny_mono (wpAny_comprehension_free (use:=some (assign (.Name y py) X.env)) (Q:=λ_ s'=>SP X pins W .next s') rfl hs (ZDt (cs.cells I.ok)) cs.kind cs.names
  (thn (hi pins s σ a.H _ I ⟨a,S,G,hk,rfl,sm,r,(ZC2 h0).imp λ_ _ z=>z⟩) λxv s1 h1=>thn h1 λitv s2 h2=> ?_)) (λ_ s' hq=>wpAny_pure (wpAny_pure hq)) λ_ _ e=>e)
 obtain ⟨i0,fp,tn,J,H2,rfl,I2,T,t0,f2,b,d,G1,rfl,x,sb,rJ,_,h1⟩:=h2
 refine ZDa hc cs hg gk hts he I2 (x.k.trans hk) sb (r.mono x) T t0 f2 rJ h1 (RR:=λacc C=>compPost (model X.prog X.w) X.A X.xe (some (assign (.Name y py) X.env)) (λ_ s'=>SP X pins W .next s') acc C) ?_
 intro D C s' b' vs Ia hD hCle hDC ⟨m,hn⟩ hCn hq;show wpAny _ X.A (assign (.Name y py) X.env (.ref D)) _ _ _;refine wpAny_assign_Name (ZFi Ia hN hy hx (v:=.ref D) rfl (λs'' I'' hch=> ?_) hf);obtain ⟨a',hsb',ha'⟩:=hch;have hCa:C≠a':=by
  rintro rfl;rcases ha' with rfl | ha'
  ·exact absurd (Nat.lt_of_lt_of_le I2.lt hCle) (Nat.lt_irrefl _)
  ·obtain ⟨v,o,e',_⟩:=I2.cell _ _ ha';exact absurd (Nat.lt_of_lt_of_le (Heap.lt_size e') hCle) (Nat.lt_irrefl _)
 refine ⟨m,hn.sameBut hsb' hCa,λh' hsb=>⟨_,_,letGo I2 I'' hCle ?_ hsb,?_⟩⟩
 ·rw [Bc (Ne.symm hDC)];exact hCn
 ·obtain ⟨b3,d3,G3,e3,x3,s3,q3,_,h3⟩:=hq;rw [<-e3];exact h3 b3 _ (Ext.refl b3) s3 ((r.mono x3).set i q3)
end
noncomputable def Th:D->DH->R D
 | .int i,G=>.ok (.int (-i)) G
 | _,_=>.bad
noncomputable def Ly:D->Bool
 | .non=>true
 | _=>false
noncomputable def Vd:D->D->DH->R D
 | d,.non,G=>.ok (.bl (Ly d)) G
 | _,_,_=>.bad
noncomputable def Nh:D->D->DH->R D
 | d,.non,G=>.ok (.bl (!Ly d)) G
 | _,_,_=>.bad
section
variable {X:Cx} {E:XK} {a b:Expr} {ta tb:DE} {pos:Pos}
theorem Zu:UnR X (unaryOp .USub) (lR1 X.K E Th):=λpins s σ H x v Q I rx h=>by
 obtain ⟨a,G,d,hk,rfl,sm,rd,q⟩:=h;cases d with
 | int i=>exact ZK9 pins s σ a.H x v Q I rx ⟨i,rd,q a _ (Ext.refl a) sm rfl⟩
 | _=>exact q.elim
theorem ZAR {op:UnaryOp} {f:D->DH->R D} (ho:UnR X (unaryOp op) (lR1 X.K E f)) (ha:QE X E a ta):QE X E (.UnaryOp op a pos) (dUn f ta):=(ZNe ho ha).mono λσ H Q h=>by obtain ⟨a,S,G,hk,rfl,s,r,h⟩:=h;refine ⟨a,S,G,hk,rfl,s,r,(Gh h).imp ?_⟩;rintro v _ ⟨b,d,G1,rfl,x,s1,q,-,h1⟩;exact ⟨b,G1,d,x.k.trans hk,rfl,s1,q,h1⟩
theorem Li {n:String} (hg:Gl X x) (hm:X.mg x=none) (hv:bootBuiltins x=some (.type n)) (hn:x≠"__name__":=by decide) (hd:(x == ("__debug__":Str))=false:=by decide):QE X E (.Name x pos) (dC (.ty n)):=
 (ZPJ (v:=.ty n) hg hm hv rfl hn hd).mono λσ H Q h=>Q5 h λ_ _=>rfl
theorem ZDe {a:Wd} {x:V} (rd:Rep a d x):decide (x=V.non)=Ly d:=by
 cases d with
 | non=>rw [show x=V.non from rd];rfl
 | bl _=>rw [show x=V.bl _ from rd];rfl
 | int _=>rw [show x=V.int _ from rd];rfl
 | str _=>rw [show x=V.str _ from rd];rfl
 | ty _=>rw [show x=V.ty _ from rd];rfl
 | tup _=>obtain ⟨p,vs,rfl,_⟩:=rd;rfl
 | fl _=>obtain ⟨p,vs,rfl,_⟩:=rd;rfl
 | ref _=>rw [rd.2];rfl
theorem o_is:OpR X (compareOp .Is) (lR2 X.K E Vd):=Hx ZNs λa G d e x y Q hk s rd re q=>by
 cases e with
 | non=>exact ⟨re,by rw [ZDe rd];cases d <;> exact q a _ (Ext.refl a) s rfl⟩
 | _=>cases d <;> exact q.elim
theorem R8:OpR X (compareOp .IsNot) (lR2 X.K E Nh):=Hx ZPi λa G d e x y Q hk s rd re q=>by
 cases e with
 | non=>exact ⟨re,by rw [ZDe rd];cases d <;> exact q a _ (Ext.refl a) s rfl⟩
 | _=>cases d <;> exact q.elim
end
theorem La:bootBuiltins "isinstance"=some (.builtin "isinstance"):=by decide +kernel
theorem Z7:bootBuiltins "all"=some (.builtin "all"):=by decide +kernel
theorem Ry:bootBuiltins "sum"=some (.builtin "sum"):=by decide +kernel
theorem ZFc:bootBuiltins "max"=some (.builtin "max"):=by decide +kernel
theorem Tf:bootBuiltins "min"=some (.builtin "min"):=by decide +kernel
theorem Do:bootBuiltins "len"=some (.builtin "len"):=by decide +kernel
theorem ZLg:bootBuiltins "int"=some (.type "int"):=by decide +kernel
theorem ZI8:bootBuiltins "bool"=some (.type "bool"):=by decide +kernel
theorem Gi:bootBuiltins "tuple"=some (.type "tuple"):=by decide +kernel
theorem ZCu:bootBuiltins "list"=some (.type "list"):=by decide +kernel
noncomputable def O2:NameKind->Bool | .local=>true | _=>false
noncomputable def O9:NameKind->Bool | .cell=>true | _=>false
noncomputable def M3:NameKind->Bool | .free=>true | _=>false
noncomputable def isK (p:NameKind->Bool):Option NameKind->Bool | some k=>p k | none=>false
theorem ZPq {k:NameKind} (h:O2 k=true):k=.local:=by cases k <;> first | rfl | cases h
theorem ZL3 {k:NameKind} (h:O9 k=true):k=.cell:=by cases k <;> first | rfl | cases h
theorem ZGq {k:NameKind} (h:M3 k=true):k=.free:=by cases k <;> first | rfl | cases h
theorem Xo {p:NameKind->Bool} {k:NameKind} (hp:∀k',p k'=true->k'=k) {o:Option NameKind} (h:isK p o=true):o=some k:=by
 cases o with
 | none=>cases h
 | some k'=>rw [hp _ h]
noncomputable def ZEK (dn:List (Str×NameKind)) (N0 N:List Str) (names:List (Str×NameKind)) (nt:Nat) (caps:List Nat):Bool:=
 names.all (λy=>(!O2 y.2 || isK O2 (names.lookup y.1)) && !O9 y.2 && (!M3 y.2 || isK O9 (dn.lookup y.1) || isK M3 (dn.lookup y.1))) && decide N.Nodup && decide (N.length=nt + caps.length) &&
 (List.range caps.length).all λk=>match caps[k]? with
  | some j=>match N0[j]? with
   | some x=>decide (N[nt + k]? =some x) && isK M3 (names.lookup x)
   | none=>false
  | none=>true
theorem Fg {X:Cx} {N0 N:List Str} {nt:Nat} {caps:List Nat} {dn:List (Str×NameKind)} (hk:scope.kind=.function:=by rfl) (hdn:∀x,X.env.kindOf x=dn.lookup x:=by intro _;rfl) (hN:X.N=N0:=by rfl)
  (h:ZEK dn N0 N scope.names nt caps=true:=by decide +kernel):CompSc X N scope nt caps:=by
 unfold ZEK at h;rw [Bool.and_eq_true,Bool.and_eq_true,Bool.and_eq_true] at h;obtain ⟨⟨⟨h1,h2⟩,h3⟩,h4⟩:=h;rw [List.all_eq_true] at h1 h4;have key:=λ(y:Str×NameKind) (hy:y∈scope.names)=>(by have:=h1 y hy;rw [Bool.and_eq_true,Bool.and_eq_true] at this;exact this:((!O2 y.2 || isK O2 (scope.names.lookup y.1))=true/\(!O9 y.2)=true)/\(!M3 y.2 || isK O9 (dn.lookup y.1) || isK M3 (dn.lookup y.1))=true)
 refine ⟨hk,λy hy hl=> ?_,λy hy hl=> ?_,λy hy hl=> ?_,of_decide_eq_true h2,of_decide_eq_true h3,λk j hj=> ?_⟩
 ·have:=(key y hy).1.1;rw [hl] at this;exact Xo (p:=O2) (λ_ h=>ZPq h) (by have t:(false || isK O2 (scope.names.lookup y.1))=true:=this;simpa using t)
 ·have:=(key y hy).1.2;rw [hl] at this;exact absurd this (by decide)
 ·have:=(key y hy).2;rw [hl,Bool.or_eq_true] at this;rw [hdn];rcases this with h | h
  ·exact .inl (Xo (p:=O9) (λ_ h=>ZL3 h) (by have t:(false || isK O9 (dn.lookup y.1))=true:=h;simpa using t))
  ·exact .inr (Xo (p:=M3) (λ_ h=>ZGq h) h)
 ·have hk':k < caps.length:=(List.getElem?_eq_some_iff.mp hj).1;have:=h4 k (List.mem_range.mpr hk');rw [hj] at this;dsimp only at this;cases e:N0[j]? with
  | none=>rw [e] at this;cases this
  | some x=>
   rw [e] at this;dsimp only at this;rw [Bool.and_eq_true] at this;exact ⟨x,by rw [hN];exact e,of_decide_eq_true this.1,Xo (p:=M3) (λ_ h=>ZGq h) this.2⟩
section
section
variable {X:Cx} {pins:List (Addr×Obj)} {σ:St} {H:Hp} {s:Shared}
theorem ZLI {xs:List V} (I:Inv X pins σ H s) (h:H p=some (.lst xs)):∃o,Inv X pins σ (upd H p (.frz o (.lst xs))) s:=by
 obtain ⟨hl,its,n,r,e⟩:=I.hok p _ h;have nt:∀b (u:HO),H b=some u->u≠ .lst xs->b≠p:=λb u q d z=>by subst z;rw [h] at q;exact d (Option.some.inj q).symm
 refine ⟨_,I.un (t':=s.toks) (H':=upd H p (.frz {cls:=.type "list",data:=.seq its.toArray n} (.lst xs))) ⟨λb o q _ _ _=>q,λb o q _ _ _=>⟨o.slots,q⟩,λb o q z _=> ?_,λb o q _=>⟨o,q⟩,λb ys q=> ?_,λb o u q=> ?_,λb ps q=>⟨#[],?_⟩⟩ ?_⟩
 ·rw [Bc (λz'=>by subst z';rw [h] at z;cases z)];exact z
 ·rw [Bc (nt b _ q (by intro z;cases z))];exact q
 ·rw [Bc (nt b _ q (by intro z;cases z))];exact q
 ·rw [Bc (nt b _ q (by intro z;cases z)),Array.append_empty];exact q
 ·intro b u q;by_cases hb:b=p
  ·subst hb;rw [Gk] at q;cases q;exact ⟨e,hl,its,n,r,e⟩
  ·rw [Bc hb] at q;exact (I.hok b u q).stay (λc v _ z=>z) (λc z=>by rw [Bc (nt c _ z (by intro z;cases z))];exact z) λc ys z=>by rw [Bc (nt c _ z (by intro z;cases z))];exact z
noncomputable def Fz (P:Addr->Prop) (H H':Hp):Prop:=∀p,(H' p=H p/\(∀vs,H p=some (.lst vs)->¬P p))∨∃o vs,P p/\H p=some (.lst vs)/\H' p=some (.frz o (.lst vs))
theorem ZFk (I:Inv X pins σ H s) (m:Nat->Addr) (n:Nat):∀k:Nat,∃H',Inv X pins σ H' s/\Fz (λp=>∃i,n<=i/\i < n + k/\p=m i) H H'
 | 0=>⟨H,I,λp=>.inl ⟨rfl,λ_ _ ⟨i,h1,h2,_⟩=>by lia⟩⟩
 | k + 1=>by
  obtain ⟨H',I',F⟩:=ZFk I m n k;have keep:(∀vs,H' (m (n + k))≠some (.lst vs))->Fz (λp=>∃i,n<=i/\i < n + (k + 1)/\p=m i) H H':=λno p=>by
   rcases F p with ⟨e,z⟩ | ⟨o,vs,⟨i,h1,h2,h3⟩,e1,e2⟩
   ·refine .inl ⟨e,λvs e1 ⟨i,h1,h2,h3⟩=> ?_⟩;by_cases hi:i < n + k
    ·exact z vs e1 ⟨i,h1,hi,h3⟩
    ·have:i=n + k:=by lia
     subst this;subst h3;exact no vs (e.trans e1)
   ·exact .inr ⟨o,vs,⟨i,h1,by lia,h3⟩,e1,e2⟩
  cases hH:H' (m (n + k)) with
  | none=>exact ⟨H',I',keep λvs z=>by rw [hH] at z;cases z⟩
  | some u=>
   cases u with
   | lst vs=>
    obtain ⟨o,I2⟩:=ZLI I' hH;refine ⟨_,I2,λp=> ?_⟩;by_cases hp:p=m (n + k)
    ·subst hp;rcases F (m (n + k)) with ⟨e,z⟩ | ⟨o',vs',_,e1,e2⟩
     ·exact .inr ⟨o,vs,⟨n + k,by lia,by lia,rfl⟩,e.symm.trans hH,Gk⟩
     ·rw [hH] at e2;cases e2
    ·rcases F p with ⟨e,z⟩ | ⟨o',vs',⟨i,h1,h2,h3⟩,e1,e2⟩
     ·refine .inl ⟨by rw [Bc hp];exact e,λvs' e1 ⟨i,h1,h2,h3⟩=> ?_⟩;by_cases hi:i < n + k
      ·exact z vs' e1 ⟨i,h1,hi,h3⟩
      ·have:i=n + k:=by lia
       subst this;exact hp h3
     ·exact .inr ⟨o',vs',⟨i,h1,by lia,h3⟩,e1,by rw [Bc hp];exact e2⟩
   | _=>exact ⟨H',I',keep λvs z=>by rw [hH] at z;cases z⟩
end
noncomputable def Kq (f:D->Option D):List D->Option (List D)
 | []=>some []
 | d::r=>match f d,Kq f r with
  | some d',some r'=>some (d'::r')
  | _,_=>none
noncomputable def Gd (G:DH) (n:Nat):Nat->D->Option D
 | 0,_=>none
 | k + 1,d=>if bel n d=true then some d else match d with
  | .ref i=>match G[i]? with
   | some (.lst xs)=>(Kq (Gd G n k) xs).map .fl
   | _=>none
  | .tup xs=>(Kq (Gd G n k) xs).map .tup
  | .fl xs=>(Kq (Gd G n k) xs).map .fl
  | _=>none
open Classical in
noncomputable def freeze (G:DH) (r:R D):R D:=match r with
 | .ok d G'=>if G'.take G.length=G then (match Gd G' G.length 9 d with
   | some d'=>.ok d' G
   | none=>.ok d G') else .ok d G'
 | r=>r
noncomputable def Ck (t:DE):DE:=λS G=>freeze G (t S G)
structure CutF (b c:Wd) (n:Nat):Prop where
 k:c.K=b.K
 n:c.n=n
 m:c.m=b.m
 tup:∀p xs,b.H p=some (.tup xs)->c.H p=some (.tup xs)
 frz:∀p o u,b.H p=some (.frz o u)->c.H p=some (.frz o u)
theorem CutF.sqT {c:Wd} {n:Nat} (x:CutF b c n) {xs:List V} (h:SqT b.K b.H p xs):SqT c.K c.H p xs:=by
 rcases h with (h | ⟨o,h⟩) | h
 ·exact .inl (.inl (x.tup _ _ h))
 ·exact .inl (.inr ⟨o,x.frz _ _ _ h⟩)
 ·exact .inr (by rw [x.k];exact h)
theorem CutF.fzL {c:Wd} {n:Nat} (x:CutF b c n) {xs:List V} (h:FzL b.K b.H p xs):FzL c.K c.H p xs:=by
 rcases h with ⟨o,h⟩ | h
 ·exact .inl ⟨o,x.frz _ _ _ h⟩
 ·exact .inr (by rw [x.k];exact h)
mutual
theorem Rep.Ju {c:Wd} {n:Nat} (x:CutF b c n):∀{d:D} {v:V},Rep b d v->bel n d=true->Rep c d v
 | .non,_,h,_=>h
 | .bl _,_,h,_=>h
 | .int _,_,h,_=>h
 | .str _,_,h,_=>h
 | .ty _,_,h,_=>h
 | .tup ds,v,h,q=>by obtain ⟨p,vs,e,t,r⟩:=h;simp only [DL.bel] at q;exact ⟨p,vs,e,x.sqT t,Reps.Ju x r q⟩
 | .fl ds,v,h,q=>by obtain ⟨p,vs,e,t,r⟩:=h;simp only [DL.bel] at q;exact ⟨p,vs,e,x.fzL t,Reps.Ju x r q⟩
 | .ref i,v,h,q=>by obtain ⟨l,e⟩:=h;simp only [DL.bel] at q;have q':=of_decide_eq_true q;exact ⟨by rw [x.n];exact q',by rw [x.m];exact e⟩
theorem Reps.Ju {c:Wd} {n:Nat} (x:CutF b c n):∀{ds:List D} {vs:List V},Reps b ds vs->bels n ds=true->Reps c ds vs
 | [],_,h,_=>h
 | d::ds,vs,h,q=>by obtain ⟨v,r,e,h1,h2⟩:=h;simp only [DL.bels,Bool.and_eq_true] at q;exact ⟨v,r,e,Rep.Ju x h1 q.1,Reps.Ju x h2 q.2⟩
end
theorem Vh {c:Wd} {f:D->Option D} (hf:∀d d' v,f d=some d'->Rep b d v->Rep c d' v):∀{ds ds':List D} {vs:List V},Kq f ds=some ds'->Reps b ds vs->Reps c ds' vs
 | [],ds',vs,e,h=>by cases e;exact h
 | d::ds,ds',vs,e,h=>by
  obtain ⟨v,r,rfl,h1,h2⟩:=h;unfold Kq at e;split at e
  ·rename_i d' r' e1 e2;cases e;exact ⟨v,r,rfl,hf _ _ _ e1 h1,Vh hf e2 h2⟩
  ·cases e
theorem ZFx {c:Wd} {n:Nat} (s:Sim b G') (x:CutF b c n) (hz:∀i,n<=i->i < b.n->∀vs,b.H (b.m i)=some (.lst vs)->∃o,c.H (b.m i)=some (.frz o (.lst vs))):∀(k:Nat) (d d':D) (v:V),Gd G' n k d=some d'->Rep b d v->Rep c d' v
 | 0,d,d',v,e,h=>by cases e
 | k + 1,d,d',v,e,h=>by
  have ih:=ZFx s x hz k;unfold Gd at e;split at e
  ·rename_i hb;cases e;exact h.Ju x hb
  ·rename_i hb;cases d with
   | ref i=>
    dsimp only at e;split at e
    ·rename_i xs hx;rw [Option.map_eq_some_iff] at e;obtain ⟨ys,e1,rfl⟩:=e;obtain ⟨vs,e2,r2⟩:=s.obj i _ hx;obtain ⟨il,rfl⟩:=h;have hi:n<=i:=by simp only [DL.bel,decide_eq_true_eq] at hb;lia
     obtain ⟨o,e3⟩:=hz i hi il vs e2;exact ⟨_,vs,rfl,.inl ⟨o,e3⟩,Vh ih e1 r2⟩
    ·cases e
   | tup xs=>
    dsimp only at e;rw [Option.map_eq_some_iff] at e;obtain ⟨ys,e1,rfl⟩:=e;obtain ⟨p,vs,rfl,t,r⟩:=h;exact ⟨p,vs,rfl,x.sqT t,Vh ih e1 r⟩
   | fl xs=>
    dsimp only at e;rw [Option.map_eq_some_iff] at e;obtain ⟨ys,e1,rfl⟩:=e;obtain ⟨p,vs,rfl,t,r⟩:=h;exact ⟨p,vs,rfl,x.fzL t,Vh ih e1 r⟩
   | _=>cases e
theorem ZHe {pins:List (Addr×Obj)} {sh:Shared} (s:Sim a G) (hG:G'.take G.length=G) (x:Ext a b) (sb:Sim b G') (I:Inv X pins σ b.H sh):
  ∃c:Wd,Inv X pins σ c.H sh/\Ext a c/\Sim c G/\CutF b c a.n/\∀(k:Nat) (d d':D) (v:V),Gd G' G.length k d=some d'->Rep b d v->Rep c d' v:=by
 have hlen:∀i o,G[i]? =some o->G'[i]? =some o:=λi o e=>by have hi:i < G.length:=(List.getElem?_eq_some_iff.mp e).1;rw [<-hG,List.getElem?_take_of_lt hi] at e;exact e
 obtain ⟨H',I',F⟩:=ZFk I b.m a.n (b.n - a.n);have hbn:a.n + (b.n - a.n)=b.n:=by have:=x.n;lia
 rw [hbn] at F;have ct:∀p (u:HO),(∀vs,u≠ .lst vs)->b.H p=some u->H' p=some u:=λp u nu e=>by
  rcases F p with ⟨e1,_⟩ | ⟨o,vs,_,e1,_⟩
  ·exact e1.trans e
  ·rw [e] at e1;exact absurd (Option.some.inj e1) (nu vs)
 have tabs:∀p,TabOk b.H p->TabOk H' p:=λp t=>t.mono (λp ps e=>ct p _ (by intro _ z;cases z) e) λp o u e=>ct p _ (by intro _ z;cases z) e
 have cc:CutF b ⟨b.K,a.n,b.m,H'⟩ a.n:=⟨rfl,rfl,rfl,λp xs e=>ct p _ (by intro _ z;cases z) e,λp o u e=>ct p _ (by intro _ z;cases z) e⟩;have old:∀i,i < a.n->H' (b.m i)=b.H (b.m i):=λi hi=>by
  rcases F (b.m i) with ⟨e1,_⟩ | ⟨o,vs,⟨j,h1,h2,h3⟩,e1,e2⟩
  ·exact e1
  ·have:=sb.inj i j (Nat.lt_of_lt_of_le hi x.n) h2 h3;lia
 refine ⟨⟨b.K,a.n,b.m,H'⟩,I',⟨x.k,Nat.le_refl _,x.m,λp xs e=>cc.tup p xs (x.tup p xs e),λp o u e=>cc.frz p o u (x.frz p o u e),λp t=>tabs p (x.tab p t)⟩,⟨s.len,λi j hi hj=>sb.inj i j (Nat.lt_of_lt_of_le hi x.n) (Nat.lt_of_lt_of_le hj x.n),λi o e=> ?_,λi hi=> ?_⟩,cc,λk d d' v hd rb=> ?_⟩
 ·show ORep ⟨b.K,a.n,b.m,H'⟩ o (H' (b.m i));rw [old i (s.lt e)];have q:=sb.obj i o (hlen i o e);have lb:=(s.obj i o e).Nq;cases o with
  | lst ds=>obtain ⟨vs,e1,r1⟩:=q;exact ⟨vs,e1,r1.Ju cc lb⟩
  | dct kvs=>obtain ⟨us,e1,k1,r1⟩:=q;exact ⟨us,e1,k1,r1.Ju cc lb⟩
  | ins c fs=>obtain ⟨C,dx,us,n1,e1,k1,r1⟩:=q;exact ⟨C,dx,us,n1,e1,k1,r1.Ju cc lb⟩
  | tab C m=>obtain ⟨c1,P1,e1,t1⟩:=q;exact ⟨c1,P1,e1,tabs _ t1⟩
  | gone=>trivial
 ·show H' (b.m i)≠none;rw [old i hi];exact sb.tr i (Nat.lt_of_lt_of_le hi x.n)
 ·rw [s.len] at hd;refine ZFx sb cc (λi h1 h2 vs e=> ?_) k d d' v hd rb;rcases F (b.m i) with ⟨e1,z⟩ | ⟨o,vs',_,e1,e2⟩
  ·exact absurd ⟨i,h1,h2,rfl⟩ (z vs e)
  ·rw [e] at e1;cases e1;exact ⟨o,e2⟩
theorem ZIU (s:Sim a G) (h:out E a (freeze G r) Q):
  out E a r λv H=>∀(pins:List (Addr×Obj)) (σ:St) (sh:Shared),Inv X pins σ H sh->∃H',Inv X pins σ H' sh/\Q v H':=by
 cases r with
 | err e G'=>exact h
 | bad=>exact h
 | ok d G'=>
  intro b v x sb rb pins σ sh I;unfold freeze at h;dsimp only at h;split at h
  ·rename_i hG;split at h
   ·rename_i d' hd;obtain ⟨c,Ic,xc,sc,cc,hr⟩:=ZHe s hG x sb I;exact ⟨c.H,Ic,h c v xc sc (hr _ _ _ _ hd rb)⟩
   ·exact ⟨_,I,h b v x sb rb⟩
  ·exact ⟨_,I,h b v x sb rb⟩
theorem De (ha:QE X E e t):QE X E e (Ck t):=λpins s σ H Q I h=>by
 obtain ⟨a,S,G,hk,rfl,sm,r,h⟩:=h;refine thn (ha pins s σ a.H _ I ⟨a,S,G,hk,rfl,sm,r,ZIU (X:=X) sm h⟩) λu s' ⟨v,H',I',rv,q⟩=> ?_
 obtain ⟨H2,I2,q2⟩:=q pins σ s' I';exact ⟨v,H2,I2,rv,q2⟩
theorem Ub {st:Stmt} (ha:QS X E st (sAs t (gV i))):QS X E st (sAs (Ck t) (gV i)):=λpins s σ H W I h=>by
 obtain ⟨a,S,G,hk,rfl,sm,r,h⟩:=h;have h2:Cw E a (sAs t (gV i) S G) {W with nx:=λσ H=>∀(pins:List (Addr×Obj)) (sh:Shared),Inv X pins σ H sh->∃H',Inv X pins σ H' sh/\W.nx σ H'}:=by
  unfold sAs Ck at h;unfold sAs;cases ht:t S G with
  | err e G'=>rw [ht] at h;exact h
  | bad=>rw [ht] at h;exact h
  | ok d G'=>
   rw [ht] at h;intro b σ' x sb rb pins sh I;unfold freeze at h;dsimp only at h;split at h
   ·rename_i hG;split at h
    ·rename_i d' hd;obtain ⟨c,Ic,xc,sc,cc,hr⟩:=ZHe sm hG x sb I;refine ⟨c.H,Ic,h c σ' xc sc ⟨?_,λj e he=> ?_⟩⟩
     ·rw [List.length_set,<-rb.len,List.length_set]
     ·rw [List.getElem?_set] at he;by_cases hij:i=j
      ·subst hij;rw [if_pos rfl] at he;by_cases hl:i < S.length
       ·rw [if_pos hl] at he;have e1:d'=e:=by simpa using he
        subst e1;obtain ⟨v,e2,rv⟩:=rb.get i d (by rw [List.getElem?_set,if_pos rfl,if_pos hl]);exact ⟨v,e2,hr _ _ _ _ hd rv⟩
       ·rw [if_neg hl] at he;cases he
      ·rw [if_neg hij] at he;obtain ⟨v,e2,rv⟩:=rb.get j e (by rw [List.getElem?_set,if_neg hij];exact he);obtain ⟨v',_,rv'⟩:=r.get j e he;exact ⟨v,e2,rv.Ju cc rv'.bel⟩
    ·exact ⟨_,I,h b σ' x sb rb⟩
   ·exact ⟨_,I,h b σ' x sb rb⟩
 refine thn (ha pins s σ a.H _ I ⟨a,S,G,hk,rfl,sm,r,h2⟩) λf s' hf=> ?_
 cases f with
 | next=>
  obtain ⟨σ',H',I',q⟩:=hf;obtain ⟨H2,I2,q2⟩:=q pins s' I';exact ⟨σ',H2,I2,q2⟩
 | brk=>exact hf
 | cont=>exact hf
 | ret u=>exact hf
end
section
variable {S:DSt} {G:DH}
@[simp] theorem ZBv:dV i S G=(match S[i]? with | some (some d)=>.ok d G | _=>.bad):=id rfl
@[simp] theorem ev_C:dC d S G=.ok d G:=id rfl
@[simp] theorem ev_Op {a b:DE}:dOp f a b S G=(a S G).bind λx G1=>(b S G1).bind λy G2=>f x y G2:=id rfl
@[simp] theorem ev_Un {f:D->DH->R D} {a:DE}:dUn f a S G=(a S G).bind f:=id rfl
@[simp] theorem ev_Nil:Ae S G=.ok [] G:=id rfl
@[simp] theorem ZQO {a:DE} {r:DA}:Ab a r S G=(a S G).bind λx G1=>(r S G1).bind λxs G2=>.ok (x::xs) G2:=id rfl
@[simp] theorem ev_Fn {f:List D->DH->R D} {t:DA}:dFn f t S G=(t S G).bind f:=id rfl
@[simp] theorem ZQ5:Ff t S G=tidy G (t S G):=id rfl
@[simp] theorem ev_Frz:Ck t S G=freeze G (t S G):=id rfl
@[simp] theorem ev_asB {k:Bool}:asB (.bl k) G=.ok k G:=id rfl
@[simp] theorem ev_Tst:Aw t S G=(t S G).bind asB:=id rfl
@[simp] theorem ev_And {t u:DB}:K5 t u S G=(t S G).bind λk G1=>if k=true then u S G1 else .ok false G1:=id rfl
@[simp] theorem ev_Or {t u:DB}:dOr t u S G=(t S G).bind λk G1=>if k=true then .ok true G1 else u S G1:=id rfl
@[simp] theorem ev_Not {t:DB}:Iv t S G=(t S G).bind λk G1=>.ok (!k) G1:=id rfl
@[simp] theorem ZQn {u:DE}:N7 t u S G=(t S G).bind λx G1=>(asB x G1).bind λk G2=>if k=true then u S G2 else .ok (.bl false) G2:=id rfl
@[simp] theorem ev_OrV {u:DE}:Zx t u S G=(t S G).bind λx G1=>(asB x G1).bind λk G2=>if k=true then .ok (.bl true) G2 else u S G2:=id rfl
@[simp] theorem ZQh:ZAb t S G=(t S G).bind λx G1=>(asB x G1).bind λk G2=>.ok (.bl (!k)) G2:=id rfl
@[simp] theorem ev_If {u:DE}:dIf c t u S G=(c S G).bind λk G1=>if k=true then t S G1 else u S G1:=id rfl
@[simp] theorem ZQC {g:D->D->DH->R D} {a b c:DE}:Uh f g a b c S G=(a S G).bind λx G1=>(b S G1).bind λy G2=>(f x y G2).bind λz G3=>(asB z G3).bind λk G4=>
 if k=true then (c S G4).bind λw G5=>g y w G5 else .ok (.bl false) G4:=id rfl
@[simp] theorem ev_sNx:sNx S G=.nx S G:=id rfl
noncomputable def SR.then (r:SR) (u:DS):SR:=match r with
 | .nx S1 G1=>u S1 G1
 | r=>r
@[simp] theorem X4 {t:DS}:Ah t u S G=(t S G).then u:=id rfl
@[simp] theorem Ud:(SR.nx S G).then u=u S G:=id rfl
@[simp] theorem ZQH:(SR.rt d G).then u=.rt d G:=id rfl
@[simp] theorem ev_sEx:sEx t S G=(t S G).toS λ_ G1=>.nx S G1:=id rfl
@[simp] theorem ev_sRt:sRt t S G=(t S G).toS λd G1=>.rt d G1:=id rfl
@[simp] theorem ev_sIf {t:DS}:sIf c t u S G=(c S G).toS λk G1=>if k=true then t S G1 else u S G1:=id rfl
@[simp] theorem ev_sAs:sAs t g S G=(t S G).toS λd G1=>(g d S G1).toS λS2 G2=>.nx S2 G2:=id rfl
@[simp] theorem ev_sAu:sAu i t f S G=(match S[i]? with
 | some (some x)=>(t S G).toS λy G1=>(f x y G1).toS λz G2=>.nx (S.set i (some z)) G2
 | _=>.bad):=id rfl
@[simp] theorem ZQw {it:DI} {b:DS}:Du it g b S G=(it S G).toS λJ G1=>(match J with
 | .pure xs=>Bh g b xs S G1
 | .mt i=>match G1[i]? with
  | some (.lst xs)=>forM i g b xs.length 0 S G1
  | _=>.bad
 | .fn n f=>Ei f g b n 0 S G1):=id rfl
@[simp] theorem ZKi:Ep t S G=(t S G).bind I8:=id rfl
@[simp] theorem ZQf {f:List D->DH->R ItD} {t:DA}:Dl f t S G=(t S G).bind f:=id rfl
@[simp] theorem Ds:gV i d S G=.ok (S.set i (some d)) G:=id rfl
@[simp] theorem Sy:Cg [] S G=.ok S G:=id rfl
@[simp] theorem Tr {t:DG} {u:DGs} {r:List D}:Aq t u (d::r) S G=(t d S G).bind λS1 G1=>u r S1 G1:=id rfl
@[simp] theorem T3 {n:Nat} {t:DGs} :Bw n t (.tup ds) S G=if ds.length=n then t ds S G else .bad:=id rfl
@[simp] theorem ev_gIx {o i:DE} {v:D}:gIx o i v S G=(o S G).bind λo G1=>(i S G1).bind λi G2=>(Mp o i v G2).bind λ_ G3=>.ok S G3:=id rfl
@[simp] theorem ev_MtL {f:D->List D->DH->R D} {o:DE} {t:DA}:G8 f o t S G=(o S G).bind λx G1=>if isL x G1=true then (t S G1).bind λxs G2=>f x xs G2 else .bad:=id rfl
@[simp] theorem ZN8 {it:DI} {caps:List Nat} :Eh it nt caps g c te S G=(it S G).bind λJ G1=>(match J with
 | .pure xs=>Eb g c te (Bf nt caps S) xs G1
 | .mt i=>match G1[i]? with
  | some (.lst xs)=>Hl i g c te (Bf nt caps S) xs.length 0 G1
  | _=>.bad
 | .fn n f=>Ec f g c te (Bf nt caps S) n 0 G1).bind Ar:=id rfl
@[simp] theorem ZJ7:Ce S G=.ok true G:=id rfl
@[simp] theorem Dv {k:DSt->DH->SR}:aft (.nx S G) k=k S G:=id rfl
@[simp] theorem aft_rt {k:DSt->DH->SR} :aft (.rt d G) k=.rt d G:=id rfl
theorem Ed {b:DS}:Bh g b [] S G=.nx S G:=id rfl
theorem Dk {b:DS} {x:D} :Bh g b (x::xs) S G=(g x S G).toS λS1 G1=>aft (b S1 G1) (Bh g b xs):=id rfl
theorem Ym {x:D} :Eb g c te S (x::xs) G=(g x S G).bind λS1 G1=>(c S1 G1).bind λk G2=>
   if k=true then (te S1 G2).bind λd G3=>(Eb g c te S xs G3).bind λds G4=>.ok (d::ds) G4 else Eb g c te S xs G2:=id rfl
noncomputable def SR.ret (r:SR):R D:=match r with
 | .nx _ G'=>.ok .non G'
 | .rt d G'=>.ok d G'
 | .err x G'=>.err x G'
 | _=>.bad
@[simp] theorem ZIC:(SR.nx S G).ret=.ok .non G:=id rfl
@[simp] theorem ret_rt:(SR.rt d G).ret=.ok d G:=id rfl
theorem Br {np nl:Nat} {b:DS} :Bv np nl b ds G=if ds.length=np then tidy G (b (ds.map some++List.replicate nl none) G).ret else .bad:=id rfl
end
section
variable {n:Nat} {G:DH}
@[simp] theorem ZQc:bel n .non=true:=by simp [DL.bel]
@[simp] theorem bel_bl {b:Bool}:bel n (.bl b)=true:=by simp [DL.bel]
@[simp] theorem ZKo {b:Int}:bel n (.int b)=true:=by simp [DL.bel]
@[simp] theorem ZQi {b:Str}:bel n (.str b)=true:=by simp [DL.bel]
@[simp] theorem ZQr {b:List D}:bel n (.tup b)=bels n b:=by simp [DL.bel]
@[simp] theorem bel_fl {b:List D}:bel n (.fl b)=bels n b:=by simp [DL.bel]
@[simp] theorem ZQN {b:Nat}:bel n (.ref b)=decide (b < n):=by simp [DL.bel]
@[simp] theorem ZQR:bels n []=true:=by simp [DL.bels]
@[simp] theorem ZOg:bels n (d::ds)=(bel n d && bels n ds):=by simp [DL.bels]
theorem ZMJ:bels n ds=true↔∀d∈ds,bel n d=true:=by
 induction ds with
 | nil=>simp
 | cons d ds ih=>simp [ih]
theorem G7 {f:α->D} {xs:List α} (h:∀x∈xs,bel n (f x)=true):bels n (xs.map f)=true:=by rw [ZMJ];intro d hd;obtain ⟨x,hx,rfl⟩:=List.mem_map.mp hd;exact h x hx
@[simp] theorem ZCi {xs:List Int}:bels n (xs.map D.int)=true:=G7 λ_ _=>ZKo
theorem Bx (h:bel G.length d=true):tidy G (.ok d G)=.ok d G:=by unfold tidy;simp [h]
theorem Qu (h:bel G.length d=true):tidy G (.ok d (G++L))=.ok d G:=by unfold tidy;simp [h]
theorem Zz (L:DH) (hk:L[k]? =some (.lst ds)) (h:bels G.length ds=true):tidy G (.ok (.ref (G.length + k)) (G++L))=.ok (.ref G.length) (G++ [.lst ds]):=by
 unfold tidy;have e:(G++L)[G.length + k]? =some (.lst ds):=by rw [List.getElem?_append_right (by lia)];simpa using hk
 simp [e,Nq,h]
theorem Fv (h:bels G.length ds=true):tidy G (.ok (.ref G.length) (G++ .lst ds::L))=.ok (.ref G.length) (G++ [.lst ds]):=Zz (.lst ds::L) (k:=0) rfl h
theorem Pa (h:bel G.length d=true):freeze G (.ok d G)=.ok d G:=by unfold freeze;simp [h,Gd]
theorem Yy {n:Nat} :∀{ds:List D},bels n ds=true->Kq (Gd G' n (k + 1)) ds=some ds
 | [],_=>rfl
 | d::ds,h=>by simp only [ZOg,Bool.and_eq_true] at h;unfold Kq;rw [Yy h.2];simp [Gd,h.1]
theorem ZOa (L:DH) (hk:L[k]? =some (.lst ds)) (h:bels G.length ds=true):freeze G (.ok (.ref (G.length + k)) (G++L))=.ok (.fl ds) G:=by
 unfold freeze;have e:(G++L)[G.length + k]? =some (.lst ds):=by rw [List.getElem?_append_right (by lia)];simpa using hk
 have m:Gd (G++L) G.length 9 (.ref (G.length + k))=some (.fl ds):=by unfold Gd;simp [e,Yy h]
 simp [m]
theorem Gy (h:bels G.length ds=true):freeze G (.ok (.ref G.length) (G++ .lst ds::L))=.ok (.fl ds) G:=ZOa (.lst ds::L) (k:=0) rfl h
theorem Vc (L:DH) (k:Nat):(G++L)[G.length + k]? =L[k]? :=by rw [List.getElem?_append_right (by lia)];simp
theorem Dq (L:DH):(G++L)[G.length]? =L[0]? :=Vc L 0
theorem ZCC (L:DH) (k:Nat) (o:DO):(G++L).set (G.length + k) o=G++L.set k o:=by rw [List.set_append_right _ _ (by lia)];simp
theorem Fb (L:DH) (o:DO):(G++L).set G.length o=G++L.set 0 o:=ZCC L 0 o
theorem Lz {lo:Int}:Cq lo 0= []:=id rfl
theorem Ko {lo:Int} {n:Nat}:Cq lo (n + 1)=.int lo::Cq (lo + 1) n:=by
 unfold Cq;rw [List.range_succ_eq_map,List.map_cons,List.map_map]
 congr 1
 ·simp
 ·apply List.map_congr_left;intro k _;simp only [Function.comp]
  congr 1
  lia
end
section
variable {G:DH} {i j:Int} {x y:Str} {k l:Bool}
@[simp] theorem ev_add:Ay (.int i) (.int j) G=.ok (.int (i + j)) G:=id rfl
@[simp] theorem ZQm:Ay (.str x) (.str y) G=if x.length + y.length<=1000000 then .ok (.str (x++y)) G else .bad:=id rfl
@[simp] theorem ev_ip:Lq (.int i) (.int j) G=.ok (.int (i + j)) G:=id rfl
@[simp] theorem ev_sub:Ez (.int i) (.int j) G=.ok (.int (i - j)) G:=id rfl
theorem log2_small {n:Nat} (h:n < 10 ^ 100):n.log2 < 9000:=by
 by_cases hn:n=0
 ·subst hn;decide
 ·rw [Nat.log2_lt hn];exact Nat.lt_trans h (by decide)
@[simp] theorem ZQL {n:Nat} [NeZero n] (h:n < 10 ^ 100):Dg (.int i) (.int (no_index (OfNat.ofNat n))) G=.ok (.int (i / OfNat.ofNat n)) G:=
 if_pos ⟨Int.ofNat_lt.mpr (Nat.pos_of_ne_zero (NeZero.ne n)),log2_small h⟩
@[simp] theorem ev_mod:Bo (.int i) (.int j) G=if 0 < j then .ok (.int (i % j)) G else .bad:=id rfl
@[simp] theorem ev_pow:Jr (.int i) (.int j) G=if 0<=j/\j<=1000000/\i.natAbs < 18446744073709551616 then .ok (.int (i ^ j.toNat)) G else .bad:=id rfl
@[simp] theorem ev_lt:K4 (.int i) (.int j) G=.ok (.bl (decide (i < j))) G:=id rfl
@[simp] theorem ev_le:Ug (.int i) (.int j) G=.ok (.bl (decide (i<=j))) G:=id rfl
@[simp] theorem ev_gt:Je (.int i) (.int j) G=.ok (.bl (decide (j < i))) G:=id rfl
@[simp] theorem ev_ge:Xj (.int i) (.int j) G=.ok (.bl (decide (j<=i))) G:=id rfl
@[simp] theorem ev_eq:Dj (.int i) (.int j) G=.ok (.bl (decide (i=j))) G:=id rfl
@[simp] theorem ev_ne:Jo (.int i) (.int j) G=.ok (.bl (!decide (i=j))) G:=id rfl
@[simp] theorem ev_eqS:Dj (.str x) (.str y) G=.ok (.bl (decide (x=y))) G:=id rfl
@[simp] theorem ev_neg:Th (.int i) G=.ok (.int (-i)) G:=id rfl
@[simp] theorem ev_is:Vd d .non G=.ok (.bl (Ly d)) G:=by cases d <;> exact id rfl
@[simp] theorem ZQ2:Nh d .non G=.ok (.bl (!Ly d)) G:=by cases d <;> exact id rfl
@[simp] theorem ZQU:Ly .non=true:=id rfl
@[simp] theorem ZQ3:Ly (.int i)=false:=id rfl
@[simp] theorem ZQb:Ly (.tup ds)=false:=id rfl
@[simp] theorem ev_max:Y4 [.int i,.int j] G=.ok (.int (max i j)) G:=by
 show R.ok (D.int (if j > i then j else i)) G=_
 congr 2
 split <;> lia
@[simp] theorem ev_min:Nj [.int i,.int j] G=.ok (.int (min i j)) G:=by
 show R.ok (D.int (if j < i then j else i)) G=_
 congr 2
 split <;> lia
@[simp] theorem ZQq:Cd (.tup ds) G=some ds:=id rfl
@[simp] theorem ZQt:Cd (.fl ds) G=some ds:=id rfl
@[simp] theorem ZDK {n:Nat}:Cd (.ref n) G=(match G[n]? with | some (.lst xs)=>some xs | _=>none):=id rfl
@[simp] theorem ZQV:Dc [.tup ds] G=.ok (.int ds.length) G:=id rfl
@[simp] theorem ZQY:Dc [.fl ds] G=.ok (.int ds.length) G:=id rfl
@[simp] theorem ev_ixT:Aj (.tup ds) (.int i) G=(match atI ds i with | some v=>.ok v G | none=>.bad):=id rfl
@[simp] theorem ev_ixF:Aj (.fl ds) (.int i) G=(match atI ds i with | some v=>.ok v G | none=>.bad):=id rfl
@[simp] theorem ev_ixR {n:Nat}:Aj (.ref n) (.int i) G=(match G[n]? with | some (.lst xs)=>(match atI xs i with | some v=>.ok v G | none=>.bad) | _=>.bad):=by
 unfold Aj;simp only [ZDK];cases G[n]? with
 | none=>rfl
 | some o=>cases o <;> rfl
theorem Jj {n k:Nat} (h:k < n):ixN n (k:Int)=some k:=by unfold ixN;rw [if_pos (by lia),if_pos (by lia)];simp
theorem ZJX {xs:List α} {k:Nat} {d:α} (h:xs[k]? =some d):atI xs (k:Int)=some d:=by unfold atI;rw [Jj (List.getElem?_eq_some_iff.mp h).1];exact h
theorem Fe {xs:List α} {j:Int} {k:Nat} {d:α} (e:j=k) (h:xs[k]? =some d):atI xs j=some d:=by subst e;exact ZJX h
theorem ZMP {xs:List α} {j:Int} (h0:j < 0) (h: -(xs.length:Int)<=j):atI xs j=some (xs[(j + xs.length).toNat]'(by lia)):=by unfold atI ixN;rw [if_neg (by lia),if_pos h];exact List.getElem?_eq_getElem (by lia)
@[simp] theorem atI_0 {a:α} {xs:List α}:atI (a::xs) 0=some a:=Fe (k:=0) rfl rfl
@[simp] theorem atI_1 {a b:α} {xs:List α}:atI (a::b::xs) 1=some b:=Fe (k:=1) rfl rfl
@[simp] theorem atI_2 {a b c:α} {xs:List α}:atI (a::b::c::xs) 2=some c:=Fe (k:=2) rfl rfl
@[simp] theorem atI_3 {a b c d:α} {xs:List α}:atI (a::b::c::d::xs) 3=some d:=Fe (k:=3) rfl rfl
@[simp] theorem atI_4 {a b c d e:α} {xs:List α}:atI (a::b::c::d::e::xs) 4=some e:=Fe (k:=4) rfl rfl
@[simp] theorem atI_5 {a b c d e f:α} {xs:List α}:atI (a::b::c::d::e::f::xs) 5=some f:=Fe (k:=5) rfl rfl
@[simp] theorem atI_6 {a b c d e f g:α} {xs:List α}:atI (a::b::c::d::e::f::g::xs) 6=some g:=Fe (k:=6) rfl rfl
@[simp] theorem ZQz:Bq ds G=if ds.length<=1000000 then .ok (.tup ds) G else .bad:=id rfl
@[simp] theorem ZQP:Ar ds G=if ds.length<=1000000 then .ok (.ref G.length) (G++ [.lst ds]) else .bad:=id rfl
@[simp] theorem ZQg:H9 [.fl ds] G=.ok (.tup ds) G:=id rfl
@[simp] theorem ZQA {n:Nat}:H9 [.ref n] G=(match G[n]? with | some (.lst xs)=>.ok (.tup xs) G | _=>.bad):=by
 unfold H9;simp only [ZDK];cases G[n]? with
 | none=>rfl
 | some o=>cases o <;> rfl
@[simp] theorem ev_itT:I8 (.tup ds) G=.ok (.pure ds) G:=id rfl
@[simp] theorem ev_itF:I8 (.fl ds) G=.ok (.pure ds) G:=id rfl
@[simp] theorem ZQQ:rng1 [.int j] G=if inR j then .ok (.pure (Cq 0 j.toNat)) G else .bad:=id rfl
theorem Hz (h0: -1000000000<=i) (h:i<=1000000000):inR i:=⟨by lia,by lia⟩
@[simp] theorem ZQd:isL (.fl ds) G=true:=id rfl
@[simp] theorem ZQ8 {n:Nat}:isL (.ref n) G=(match G[n]? with | some (.lst _)=>true | _=>false):=id rfl
@[simp] theorem ev_app {n:Nat} :Fy (.ref n) [d] G=(match G[n]? with | some (.lst xs)=>if xs.length < 1000000 then .ok .non (G.set n (.lst (xs++ [d]))) else .bad | _=>.bad):=id rfl
@[simp] theorem ZQD {n:Nat} :Mp (.ref n) (.int i) d G=(match G[n]? with | some (.lst xs)=>(match ixN xs.length i with | some j=>.ok .non (G.set n (.lst (xs.set j d))) | none=>.bad) | _=>.bad):=id rfl
@[simp] theorem Z5 {ks:List Bool}:Nx [.fl (ks.map D.bl)] G=.ok (.bl (ks.all id)) G:=by simp [Nx]
@[simp] theorem ZEf {ks:List Int}:H8 [.fl (ks.map D.int)] G=.ok (.int ks.sum) G:=by simp [H8]
@[simp] theorem ZBl {ks:List Int}:H8 [.tup (ks.map D.int)] G=.ok (.int ks.sum) G:=by simp [H8]
@[simp] theorem ZQj:Fx [d,.ty "int"] G=(match tyD G d with | some .int=>.ok (.bl true) G | some .bl=>.ok (.bl true) G | some _=>.ok (.bl false) G | none=>.bad):=by
 unfold Fx;dsimp only;cases tyD G d with
 | none=>rfl
 | some t=>cases t <;> rfl
@[simp] theorem ZQe:Fx [d,.ty "bool"] G=(match tyD G d with | some .bl=>.ok (.bl true) G | some _=>.ok (.bl false) G | none=>.bad):=by
 unfold Fx;dsimp only;cases tyD G d with
 | none=>rfl
 | some t=>cases t <;> rfl
@[simp] theorem ZQK:Fx [d,.ty "tuple"] G=(match tyD G d with | some .tup=>.ok (.bl true) G | some _=>.ok (.bl false) G | none=>.bad):=by
 unfold Fx;dsimp only;cases tyD G d with
 | none=>rfl
 | some t=>cases t <;> rfl
@[simp] theorem ZQl:Fx [d,.ty "list"] G=(match tyD G d with | some .lst=>.ok (.bl true) G | some _=>.ok (.bl false) G | none=>.bad):=by
 unfold Fx;dsimp only;cases tyD G d with
 | none=>rfl
 | some t=>cases t <;> rfl
@[simp] theorem ZQX:tyD G (.int i)=some .int:=id rfl
@[simp] theorem ZQS:tyD G (.tup ds)=some .tup:=id rfl
@[simp] theorem ty_fl':tyD G (.fl ds)=some .lst:=id rfl
end
section
variable {c:Prop} [Decidable c]
@[simp] theorem ite_ok {a b:α} :(if c then R.ok a G else R.ok b G)=R.ok (if c then a else b) G:=by split <;> rfl
end
noncomputable def Gz:D->Option Key
 | .int i=>some (.inl i)
 | .str x=>some (.inr x)
 | _=>none
section
variable {X:Cx} {E:XK}
end
section
variable {S:DSt} {G:DH} {n:Nat} {kvs:List (Key×D)}
end
noncomputable def cutD {α:Type} (xs:List α) (lo hi:Option Int):List α:=(xs.drop (HT.sIx xs.length 0 lo)).take (HT.sIx xs.length xs.length hi - HT.sIx xs.length 0 lo)
noncomputable def Ua (z:Str) (lo hi:Option Int):Str:=⟨(cutD z.cps.toList lo hi).toArray⟩
theorem ZLV (xs:List α) (lo hi:Option Int):(cutD xs lo hi).length<=xs.length:=by unfold cutD;rw [List.length_take,List.length_drop];lia
noncomputable def Pr (t:Option DE) (S:DSt) (G:DH):R (Option Int):=match t with
 | none=>.ok none G
 | some t=>(t S G).bind λd G1=>match d with
  | .int i=>.ok (some i) G1
  | _=>.bad
noncomputable def ZCd (d:D) (lo hi:Option Int) (G:DH):R D:=match d with
 | .str z=>if z.length<=1000000 then .ok (.str (Ua z lo hi)) G else .bad
 | .tup xs=>.ok (.tup (cutD xs lo hi)) G
 | d=>match I9 d G with
  | some xs=>.ok (.ref G.length) (G++ [.lst (cutD xs lo hi)])
  | none=>.bad
noncomputable def dSl (e:DE) (lo hi:Option DE):DE:=λS G=>(e S G).bind λd G1=>(Pr lo S G1).bind λl G2=>(Pr hi S G2).bind λh G3=>ZCd d l h G3
theorem Xb (n:Nat) (v:Int):((HT.sIx n n (some v):Nat):Int)=max 0 (min (if v < 0 then v + (n:Int) else v) n)/\((HT.sIx n 0 (some v):Nat):Int)=max 0 (min (if v < 0 then v + (n:Int) else v) n):=by
 unfold HT.sIx;by_cases hv:v < 0
 ·simp only [if_pos hv];lia
 ·simp only [if_neg hv];lia
theorem ZPm (xs:Array Nat) (i k:Nat):(List.range k).filterMap (λm=>xs[i + m]?)=(xs.toList.drop i).take k:=by
 induction k generalizing i with
 | zero=>simp
 | succ k ih=>
  rw [List.range_succ_eq_map,List.filterMap_cons];have e:(List.map Nat.succ (List.range k)).filterMap (λm=>xs[i + m]?)=(List.range k).filterMap (λm=>xs[i + 1 + m]?):=by
   rw [List.filterMap_map]
   congr 1
   funext m;simp only [Function.comp]
   congr 1
   lia
  rw [e,ih (i + 1)];by_cases hi:i < xs.size
  ·have h1:xs[i + 0]? =some xs[i]:=by simp [hi]
   rw [h1];have h2:xs.toList.drop i=xs[i]::xs.toList.drop (i + 1):=by rw [List.drop_eq_getElem_cons (by simpa using hi)];simp
   rw [h2];simp
  ·have h1:xs[i + 0]? =none:=by simp;lia
   rw [h1];simp only;rw [List.drop_of_length_le (by simp;lia),List.drop_of_length_le (by simp;lia)];simp
theorem ZKC (x:Str) (lo hi:Option Int):Txt.slice x lo hi=Ua x lo hi:=by
 have hlen:x.length=x.cps.toList.length:=by simp [Str.length]
 have key:(Builtin.Str.strSliceIndices lo hi 1 x.length).filterMap (x.cps[·]?)=cutD x.cps.toList lo hi:=by
  have e1:∀(v:Option Int),(match v with | none=>(0:Int) | some i=>max 0 (min (if i < 0 then i + (x.length:Int) else i) x.length))=((HT.sIx x.length 0 v:Nat):Int):=λv=>by
   cases v with
   | none=>rfl
   | some i=>exact (Xb x.length i).2.symm
  have e2:∀(v:Option Int),(match v with | none=>(x.length:Int) | some i=>max 0 (min (if i < 0 then i + (x.length:Int) else i) x.length))=((HT.sIx x.length x.length v:Nat):Int):=λv=>by
   cases v with
   | none=>rfl
   | some i=>exact (Xb x.length i).1.symm
  have e3:Builtin.Str.strSliceIndices lo hi 1 x.length=sliceRange ((HT.sIx x.length 0 lo:Nat):Int) ((HT.sIx x.length x.length hi:Nat):Int) 1:=by
   rw [<-e1 lo,<-e2 hi];unfold Builtin.Str.strSliceIndices
   cases lo <;> cases hi <;> simp
  rw [e3];unfold sliceRange cutD;rw [List.filterMap_map,<-hlen];generalize HT.sIx x.length 0 lo=i;generalize HT.sIx x.length x.length hi=j;have e4:((λa=>x.cps[a]?) ∘ λ(k:Nat)=>((i:Int) + 1 * (k:Int)).toNat)=λk=>x.cps[i + k]? :=by
   funext k;simp only [Function.comp]
   congr 1
   lia
  have e5:(if (1:Int) > 0 then if (i:Int) < (j:Int) then ((j:Int) - i + 1 - 1) / 1 else 0 else if (i:Int) > (j:Int) then ((i:Int) - j - 1 - 1) / -1 else 0).toNat=j - i:=by
   rw [if_pos (by lia)];split
   ·rw [Int.ediv_one];lia
   ·lia
  rw [e4,e5];exact ZPm x.cps i (j - i)
 unfold Txt.slice Ua;split
 ·rename_i h;have h':(Builtin.Str.strSliceIndices lo hi 1 x.length).length=x.length:=by simpa using h
  have hsz:(cutD x.cps.toList lo hi).length=x.cps.toList.length∨(cutD x.cps.toList lo hi).length < x.cps.toList.length:=by have:=ZLV x.cps.toList lo hi;lia
  have hall:(cutD x.cps.toList lo hi).length=x.cps.toList.length:=by
   have e3:(Builtin.Str.strSliceIndices lo hi 1 x.length).length=HT.sIx x.length x.length hi - HT.sIx x.length 0 lo:=by
    have e1:∀(v:Option Int),(match v with | none=>(0:Int) | some i=>max 0 (min (if i < 0 then i + (x.length:Int) else i) x.length))=((HT.sIx x.length 0 v:Nat):Int):=λv=>by
     cases v with
     | none=>rfl
     | some i=>exact (Xb x.length i).2.symm
    have e2:∀(v:Option Int),(match v with | none=>(x.length:Int) | some i=>max 0 (min (if i < 0 then i + (x.length:Int) else i) x.length))=((HT.sIx x.length x.length v:Nat):Int):=λv=>by
     cases v with
     | none=>rfl
     | some i=>exact (Xb x.length i).1.symm
    have e3:Builtin.Str.strSliceIndices lo hi 1 x.length=sliceRange ((HT.sIx x.length 0 lo:Nat):Int) ((HT.sIx x.length x.length hi:Nat):Int) 1:=by
     rw [<-e1 lo,<-e2 hi];unfold Builtin.Str.strSliceIndices
     cases lo <;> cases hi <;> simp
    rw [e3];unfold sliceRange;rw [List.length_map,List.length_range];generalize HT.sIx x.length 0 lo=i;generalize HT.sIx x.length x.length hi=j;rw [if_pos (by lia)];split
    ·rw [Int.ediv_one];lia
    ·lia
   have hj:HT.sIx x.length x.length hi<=x.length:=HT.ZFr _ _ (Nat.le_refl _) hi;unfold cutD;rw [List.length_take,List.length_drop,<-hlen];lia
  have hs:(cutD x.cps.toList lo hi).Sublist x.cps.toList:=(List.take_sublist _ _).trans (List.drop_sublist _ _);rw [hs.eq_of_length hall]
 ·rw [key]
section
variable {X:Cx} {E:XK}
theorem ZJp:SlR X (λx lo hi H Q=>∃z:Str,x=.str z/\z.length<=sizeLine/\Q (.str (Ua z lo hi)) H):=by
 intro pins s σ H x v vl vu lo hi sl Q I rx hs pl pu h;obtain ⟨z,rfl,hz,q⟩:=h;obtain ⟨t,rfl⟩:=rx;refine ⟨"str",_,PySem.F.slot_str_getitem.lookup,typeIs_str _ _ _,?_⟩
 have fin:∀(l u:Option (Int×Tok)),vl=partValue l->vu=partValue u->l.map (·.1)=lo->u.map (·.1)=hi->wpAny (model X.prog X.w) X.A (getItem (.str z t) (.ref sl)) (EP X pins σ Q) X.xe s:=by
  rintro l u rfl rfl rfl rfl
  refine wpAny_getItem_str_slice (l:=l) (u:=u) (st:=none) (show s.heap.IsSlice sl l u none from hs) rfl ?_
  have e:∀Q',(Txt.slice z (l.map (·.1)) (u.map (·.1))).length<=sizeLine/\(∀t' k,Q' (.str (Txt.slice z (l.map (·.1)) (u.map (·.1))) t') {s with toks:=k})->(sliceMade z t l u none).post Q' s:=λQ' hq=>post_val_or_str hq
  refine e _ ⟨Nat.le_trans (Txt.slice_le z _ _) hz,λt' k=> ?_⟩;rw [ZKC];exact ⟨.str _,H,I.tok k,⟨t',rfl⟩,q⟩
 cases pl with
 | none=>cases pu with
  | none=>exact fin none none rfl rfl rfl rfl
  | int j tj=>exact fin none (some (j,tj)) rfl rfl rfl rfl
 | int i ti=>cases pu with
  | none=>exact fin (some (i,ti)) none rfl rfl rfl rfl
  | int j tj=>exact fin (some (i,ti)) (some (j,tj)) rfl rfl rfl rfl
theorem ZLo {prog:Program} {E:Value->Shared->Prop} {t sl:Addr} {items:Array Value} {vl vu:Value} {lo hi:Option Int} {Q:Value->Shared->Prop} (ht:IsTup s.heap t items) (hs:s.heap.IsSliceOf sl vl vu .none) (pl:IsPart vl lo) (pu:IsPart vu hi)
  (hw:HT.sIx items.size 0 lo=0/\HT.sIx items.size items.size hi=items.size) (h:Q (.ref t) s):wpAny (model prog w) A (getItem (.ref t) (.ref sl)) Q E s:=by
 obtain ⟨os,hos,hcs,hds⟩:=id hs;have hTs:s.TypeIs (.ref sl) "slice":=⟨os,hos,hcs⟩;unfold getItem
 try with_reducible refine wpAny_holding ?_
 first | refine wpAny_bind (wpAny_pure ?_) | skip
 refine wpAny_bind (wpAny_sequenceKey ht.typeIs (by decide) ?_);refine wpAny_bind (wpAny_callSpecial?_slot (name:=Str.ofString "__getitem__") ht.typeIs PyProof.Rows.slot_tuple_getitem
  (wpAny_call_entry PyProof.Rows.slot_tuple_getitem ht.typeIs entry_tuple_getitem ?_ (args_tuple_getitem _ _)))
 show wpAny _ _ (Builtin.Tuple.tupleItemsOf (.ref t) >>=_) _ _ s;refine wpAny_bind (tupleItemsOf_ ht ?_);refine wpAny_bind (wpAny_typeOf hTs ?_);rw [if_pos (by decide)];refine wpAny_bind (HT.ZHD hs pl pu ?_);have hyes:(((HT.sIx items.size 0 lo:Nat):Int) == 0 && (1:Int) == 1 && (HT.sIx items.size items.size hi - HT.sIx items.size 0 lo) == items.size)=true:=by rw [hw.1,hw.2];simp
 show wpAny _ _ (if (((HT.sIx items.size 0 lo:Nat):Int) == 0 && (1:Int) == 1 && (HT.sIx items.size items.size hi - HT.sIx items.size 0 lo) == items.size)=true then _ else _) _ _ s;rw [if_pos hyes];refine wpAny_bind ?_;unfold Builtin.Tuple.tupleIsExact;refine wpAny_bind (wpAny_typeOf ht.typeIs (wpAny_pure ?_));rw [if_pos (by decide)];exact wpAny_bind (wpAny_rule (wpAny_pure ⟨_,rfl,wpAny_pure h⟩))
theorem ZOG:SlR X (λx lo hi H Q=>∃a xs,x=.ref a/\SqT X.K H a xs/\(HT.sIx xs.length 0 lo=0/\HT.sIx xs.length xs.length hi=xs.length)/\Q (.ref a) H):=by
 intro pins s σ H x v vl vu lo hi sl Q I rx hs pl pu h;obtain ⟨a,xs,rfl,hx,hw,q⟩:=h;cases rx;obtain ⟨its,r,ht,hz⟩:=I.tuple hx;have hlen:its.toArray.size=xs.length:=by rw [List.size_toArray];exact r.length.symm
 exact ⟨"tuple",_,PyProof.Rows.slot_tuple_getitem.lookup,ht.typeIs,ZLo ht hs pl pu (by rw [hlen];exact hw) ⟨.ref a,H,I,rfl,q⟩⟩
noncomputable def Oh (E:XK) (a:Wd) (r:R (Option Int)) (Q:Option Int->Hp->Prop):Prop:=match r with
 | .ok k G=>∀(b:Wd),Ext a b->Sim b G->Q k b.H
 | .err x G=>XOk E a x G
 | .bad=>False
noncomputable def QO (X:Cx) (E:XK) (e:Option Expr) (t:Option DE):Prop:=PO X e (λσ H Q=>∃(a:Wd) (S:DSt) (G:DH),a.K=X.K/\a.H=H/\Sim a G/\RepS a S σ/\Oh E a (Pr t S G) Q)
theorem _root_.L2.PO.mono {e:Option Expr} {t t':TO} (h:PO X e t) (w:∀σ H Q,t' σ H Q->t σ H Q):PO X e t':=λpins s σ H Q I q=>h pins s σ H Q I (w σ H Q q)
theorem ZKh:QO X E none none:=ZNK.mono λσ H Q h=>by obtain ⟨a,S,G,hk,rfl,s,r,h⟩:=h;exact h a (Ext.refl a) s
theorem ZM8 (he:QE X E e t):QO X E (some e) (some t):=(ZIa he).mono λσ H Q h=>by
 obtain ⟨a,S,G,hk,rfl,s,r,h⟩:=h;refine ⟨a,S,G,hk,rfl,s,r,?_⟩
 have h':Oh E a ((t S G).bind λd G1=>match d with | .int i=>.ok (some i) G1 | _=>.bad) Q:=h
 cases ht:t S G with
 | ok d G1=>
  rw [ht] at h';intro b v x sb rv;cases d with
  | int i=>exact ⟨i,rv,h' b x sb⟩
  | _=>exact h'.elim
 | err x G1=>rw [ht] at h';exact h'
 | bad=>rw [ht] at h';exact h'
theorem Reps.cutD (r:Reps a ds vs) (lo hi:Option Int):Reps a (DL.cutD ds lo hi) (Ma vs lo hi):=by unfold DL.cutD Ma;rw [r.length];exact (r.drop _).take _
theorem Oh.imp {r:R (Option Int)} {Q Q':Option Int->Hp->Prop} (h:Oh E a r Q) (w:∀v H,Q v H->Q' v H):Oh E a r Q':=by
 cases r with
 | ok d G=>exact λb x s=>w _ _ (h b x s)
 | err e G=>exact h
 | bad=>exact h
theorem ZDd {r:R (Option Int)} {f:Option Int->DH->R D} (h:out E a (r.bind f) Q):
  Oh E a r (λk H=>∃(b:Wd) (G:DH),b.H=H/\Ext a b/\Sim b G/\r=.ok k G/\out E b (f k G) Q):=by
 cases r with
 | ok d G=>exact λb x s=>⟨b,G,rfl,x,s,rfl,out.mono x h⟩
 | err e G=>exact h
 | bad=>exact h
theorem ZPo {lo hi:Option Expr} {tl th:Option DE} {p2 pos:Pos} (he:QE X E e te) (hl:QO X E lo tl) (hu:QO X E hi th):QE X E (.Subscript e (.Slice lo hi none p2) pos) (dSl te tl th):=
 (ZPL (ZH1.or (ZOo.or (ZOG.or ZJp))) he hl hu).mono λσ H Q h=>by
 obtain ⟨a,S,G,hk,rfl,s,r,h⟩:=h;refine ⟨a,S,G,hk,rfl,s,r,(Gh h).imp ?_⟩;rintro v _ ⟨b,d,G1,rfl,x,s1,q,_,h1⟩;refine ⟨b,S,G1,x.k.trans hk,rfl,s1,r.mono x,(ZDd h1).imp ?_⟩;rintro l _ ⟨c,G2,rfl,y,s2,_,h2⟩;refine ⟨c,S,G2,y.k.trans (x.k.trans hk),rfl,s2,(r.mono x).mono y,(ZDd h2).imp ?_⟩;rintro u _ ⟨c3,G3,rfl,y3,s3,_,h3⟩;have hk3:=y3.k.trans (y.k.trans (x.k.trans hk));have q3:=(q.mono y).mono y3
 have lst:out E c3 (match I9 d G3 with | some xs=>.ok (.ref G3.length) (G3++ [.lst (cutD xs l u)]) | none=>.bad) Q->rSlL X.K v l u c3.H Q:=λh3=>by
  split at h3
  ·rename_i xs hx;obtain ⟨p,vs,e1,q1,r1⟩:=R4 s3 q3 hx;exact ⟨p,vs,e1,by rw [<-hk3];exact q1,λp hp=>Ls s3 (Reps.cutD r1 l u) h3 p hp⟩
  ·exact h3.elim
 cases d with
 | str z=>
  have h4:out E c3 (if z.length<=1000000 then .ok (.str (Ua z l u)) G3 else .bad) Q:=h3;split at h4
  ·rename_i hl
   cases (show v=V.str z from q3)
   exact .inr (.inr (.inr ⟨z,rfl,Nat.le_trans hl size6,h4 c3 _ (Ext.refl _) s3 rfl⟩))
  ·exact h4.elim
 | tup xs=>
  have h4:out E c3 (.ok (.tup (cutD xs l u)) G3) Q:=h3;obtain ⟨p,vs,e1,q1,r1⟩:=q3;by_cases hw:HT.sIx vs.length 0 l=0/\HT.sIx vs.length vs.length u=vs.length
  ·refine .inr (.inr (.inl ⟨p,vs,e1,by rw [<-hk3];exact q1,hw,h4 c3 _ (Ext.refl _) s3 ⟨p,vs,rfl,q1,?_⟩⟩));have:cutD xs l u=xs:=by unfold cutD;rw [r1.length,hw.1,hw.2,<-r1.length];simp
   rw [this];exact r1
  ·exact .inr (.inl ⟨p,vs,e1,by rw [<-hk3];exact q1,hw,λp hp=>ZB8 s3 (Reps.cutD r1 l u) h4 p hp⟩)
 | fl xs=>exact .inl (lst h3)
 | ref i=>exact .inl (lst h3)
 | non=>exact (show False from h3).elim
 | bl _=>exact (show False from h3).elim
 | int _=>exact (show False from h3).elim
 | ty _=>exact (show False from h3).elim
section
variable {name:Str} {id:String} {f:D->List D->DH->R D} {o e:Expr} {es:List Expr} {to:DE} {t:DA} {apos cpos:Pos}
end
end
section
variable {S:DSt} {G:DH}
@[simp] theorem ev_Sl {e:DE} {lo hi:Option DE}:dSl e lo hi S G=(e S G).bind λd G1=>(Pr lo S G1).bind λl G2=>(Pr hi S G2).bind λh G3=>ZCd d l h G3:=id rfl
@[simp] theorem P0 {z:Str} {i:Int}:Aj (.str z) (.int i) G=if z.length<=1000000 then (match atI z.cps.toList i with | some c=>.ok (sgn c) G | none=>.bad) else .bad:=id rfl
end
end DL
namespace DL
open PySem PySem.Spec L2
open PyProof.Rows hiding St
open Builtin.Str
variable {g:DG} {c:DB} {te:DE} {S:DSt} {G:DH}
section
variable (p:Nat->Bool) (m:Nat)
end
noncomputable def CStep (g:DG) (c:DB) (te:DE) (S:DSt) (G:DH) (x:D) (r:Option D):Prop:=
 ∃S1,g x S G=.ok S1 G/\((c S1 G=.ok false G/\r=none)∨(c S1 G=.ok true G/\∃d,te S1 G=.ok d G/\r=some d))
theorem Wo {F:D->Option D}:∀{xs:List D},(∀x∈xs,CStep g c te S G x (F x))->Eb g c te S xs G=.ok (xs.filterMap F) G
 | [],_=>rfl
 | x::xs,h=>by
  obtain ⟨S1,h1,h2⟩:=h x (by simp);have ih:=Wo (λy hy=>h y (List.mem_cons_of_mem _ hy));rw [Ym,h1];rcases h2 with ⟨h2,h3⟩ | ⟨h2,d,h3,h4⟩
  ·simp [h2,h3,ih,List.filterMap_cons]
  ·simp [h2,h3,h4,ih,List.filterMap_cons]
theorem ZC3 {i:Nat} {F:D->Option D} {xs:List D} (hG:G[i]? =some (.lst xs)) (h:∀x∈xs,CStep g c te S G x (F x)):
  ∀(n j:Nat),j + n=xs.length->Hl i g c te S n j G=.ok ((xs.drop j).filterMap F) G
 | 0,j,hj=>by
  unfold Hl;rw [hG];simp only;rw [if_pos (by lia),List.drop_of_length_le (by lia)]
  rfl
 | n + 1,j,hj=>by
  have hlt:j < xs.length:=by lia
  have ih:=ZC3 hG h n (j + 1) (by lia);obtain ⟨S1,h1,h2⟩:=h xs[j] (List.getElem_mem hlt);unfold Hl;rw [hG];simp only;rw [List.getElem?_eq_getElem hlt];simp only [h1,R.Kv];rw [List.drop_eq_getElem_cons hlt,List.filterMap_cons];rcases h2 with ⟨h2,h3⟩ | ⟨h2,d,h3,h4⟩
  ·simp [h2,h3,ih]
  ·simp [h2,h3,h4,ih]
theorem ZEb {i:Nat} {F:D->Option D} {xs:List D} (hG:G[i]? =some (.lst xs)) (h:∀x∈xs,CStep g c te S G x (F x)):
  Hl i g c te S xs.length 0 G=.ok (xs.filterMap F) G:=ZC3 hG h xs.length 0 (by lia)
theorem ZHl {x y:Str} (h:x.cps.toList=y.cps.toList):x=y:=by obtain ⟨a⟩:=x;obtain ⟨b⟩:=y;simp only at h;rw [Array.toList_inj.mp h]
end DL
namespace DL
open PySem PySem.Spec L2
open PyProof.Rows hiding St
variable {h h':Heap} {p z:Addr} {k i:Nat} {old:Value} {os:List Value}
inductive Src where
 | l (a:Addr)
 | t (a:Addr)
variable {sr:Src} {l:List (Src×Addr)}
noncomputable def Src.itn:Src->String
 | .l _=>"list_iterator"
 | .t _=>"tuple_iterator"
noncomputable def Src.adr:Src->Addr
 | .l a=>a
 | .t a=>a
noncomputable def Src.it (h:Heap) (p:Addr) (k:Nat) (sr:Src):Prop:=∃o,h.get? p=some o/\o.cls=.type sr.itn/\o.data=.fields #[.ref sr.adr,.int k 0]
noncomputable def Src.val (h:Heap) (xs:Array Value):Src->Prop
 | .l a=>h.IsList a xs
 | .t a=>h.IsTuple a xs
theorem Src.it.at (x:sr.it h p k) (e:∀o,h.get? p=some o->h'.get? p=some o):sr.it h' p k:=let ⟨o,ho,r⟩:=x;⟨o,e o ho,r⟩
theorem Src.val.at {xs:Array Value} (x:sr.val h xs) (e:∀o,h.get? sr.adr=some o->h'.get? sr.adr=some o):sr.val h' xs:=by
 cases sr with
 | l a=>obtain ⟨o,ho,r⟩:=x;exact ⟨o,e o ho,r⟩
 | t a=>obtain ⟨o,ho,r⟩:=x;exact ⟨o,e o ho,r⟩
theorem Src.it.lt (x:sr.it h p k):p < h.objs.size:=let ⟨_,ho,_⟩:=x;Heap.lt_size ho
section
variable {prog:Program} {w:World} {A:Around} {E:Value->Shared->Prop} {s:Shared}
theorem Src.val.obj {xs:Array Value} (x:sr.val h xs):∃o n,h.get? sr.adr=some o/\o.data=.seq xs n:=by
 cases sr with
 | l a=>obtain ⟨o,ho,_,n,hd⟩:=x;exact ⟨o,n,ho,hd⟩
 | t a=>obtain ⟨o,ho,_,n,hd⟩:=x;exact ⟨o,n,ho,hd⟩
theorem Src.next_item {xs:Array Value} {x:Value} {Q:Value->Shared->Prop} (hit:sr.it s.heap p k) (hv:sr.val s.heap xs) (hx:xs[k]? =some x)
  (hQ:∀h',sr.it h' p (k + 1)->Heap.SameBut p s.heap h'->Q x {s with heap:=h'}):wpAny (model prog w) A (Builtin.SmallTypes.nextOf (.ref p)) Q E s:=by
 cases sr with
 | l a=>exact wpAny_nextOf_list_item (show s.heap.IsListIter p a k from hit) hv hx hQ
 | t a=>
  obtain ⟨o,ho,hc,hd⟩:=id hit;obtain ⟨ol,hol,_,nl,hdl⟩:=hv;have hT:s.TypeIs (.ref p) "tuple_iterator":=⟨o,ho,hc⟩;unfold Builtin.SmallTypes.nextOf;refine wpAny_bind (wpAny_callSpecial?_slot (name:=Str.ofString "__next__") hT PySem.F.slot_tuple_iterator_next (wpAny_call_entry PySem.F.slot_tuple_iterator_next hT PySem.F.entry_tuple_iterator_next ?_ (PySem.F.args_tuple_iterator_next_1 _)));refine wpAny_bind (m:=field (.ref p) 0) (wpAny_field ho hd (x:=.ref a) rfl ?_)
  show wpAny _ _ (if (Value.ref a == Value.none)=true then _ else (field (.ref p) 1 >>=_)) _ _ s
  rw [if_neg (show¬((Value.ref a == Value.none)=true) from Bool.false_ne_true)]
  refine wpAny_bind (m:=field (.ref p) 1) (wpAny_field ho hd (x:=.int k 0) rfl (wpAny_bind (m:=seqItems? (.ref a)) (wpAny_seqItems hol hdl ?_)));simp only [Int.toNat_natCast,hx];refine wpAny_bind (wpAny_setField ho hd (by simp) (wpAny_pure ⟨x,rfl,wpAny_pure (hQ _ ⟨_,Heap.get?_update_self _ ho (Obj.isFreed_of_fields (Obj.data_mapFields hd _)),(Obj.cls_mapFields ..).trans hc,?_⟩ (Heap.SameBut.update ..))⟩))
  rw [Obj.data_mapFields hd];simp [rawInt,Src.adr]
theorem Src.next_end {xs:Array Value} {Q:Value->Shared->Prop} (hh:A.handled=none) (hit:sr.it s.heap p k) (hv:sr.val s.heap xs) (hx:xs[k]? =none)
  (hE:∀h' e,Heap.ExtBut p s.heap h'->(∃o,h'.get? e=some o/\o.cls=.type "StopIteration")->E (.ref e) {s with heap:=h'}):wpAny (model prog w) A (Builtin.SmallTypes.nextOf (.ref p)) Q E s:=by
 cases sr with
 | l a=>exact wpAny_nextOf_list_end hh (show s.heap.IsListIter p a k from hit) hv hx hE
 | t a=>
  obtain ⟨o,ho,hc,hd⟩:=id hit;obtain ⟨ol,hol,_,nl,hdl⟩:=hv;have hT:s.TypeIs (.ref p) "tuple_iterator":=⟨o,ho,hc⟩;unfold Builtin.SmallTypes.nextOf;refine wpAny_bind (wpAny_callSpecial?_slot (name:=Str.ofString "__next__") hT PySem.F.slot_tuple_iterator_next (wpAny_call_entry PySem.F.slot_tuple_iterator_next hT PySem.F.entry_tuple_iterator_next ?_ (PySem.F.args_tuple_iterator_next_1 _)));refine wpAny_bind (m:=field (.ref p) 0) (wpAny_field ho hd (x:=.ref a) rfl ?_)
  show wpAny _ _ (if (Value.ref a == Value.none)=true then _ else (field (.ref p) 1 >>=_)) _ _ s
  rw [if_neg (show¬((Value.ref a == Value.none)=true) from Bool.false_ne_true)]
  refine wpAny_bind (m:=field (.ref p) 1) (wpAny_field ho hd (x:=.int k 0) rfl (wpAny_bind (m:=seqItems? (.ref a)) (wpAny_seqItems hol hdl ?_)));simp only [Int.toNat_natCast,hx];refine wpAny_bind (wpAny_rule (wpAny_bind (wpAny_setField ho hd (by simp) (wpAny_bind (m:=newExc (.type "StopIteration") []) ?_))));simp only [newExc,newTuple]
  refine wpAny_bind (wpAny_newObj_type (wpAny_bind (m:=firstArgMember _ _) (wpAny_of_eq (a:=Value.none) (by first | rfl | (simp only [firstArgMember];rfl)) (wpAny_newObj_type ?_ (by size_fits)))) (by size_fits))
  simp only [raiseNew];refine wpAny_bind (wpAny_handled ?_)
  first | rw [show A.in1.handled=none from hh] | rw [hh]
  exact wpAny_bind (wpAny_pure (wpAny_throw (hE _ _ (((Heap.SameBut.update ..).extBut.push _).push _) ⟨_,Heap.get?_push_size _ rfl,rfl⟩)))
theorem Src.iter {xs:Array Value} {Q:Value->Shared->Prop} (hv:sr.val s.heap xs)
  (hQ:Q (.ref s.heap.objs.size) {s with heap:=s.heap.push {cls:=.type sr.itn,data:=.fields #[.ref sr.adr,.int 0 0]}}):wpAny (model prog w) A (pyIter (.ref sr.adr)) Q E s:=by
 cases sr with
 | l a=>exact wpAny_pyIter_list hv hQ
 | t a=>exact wpAny_pyIter_tuple hv hQ
end
noncomputable abbrev En (h:Heap) (e it:Addr) (f0:Value) (i:Int) (g old:Value):Prop:=
 h.get? e=some {cls:=.type "enumerate",dict:=none,data:=.fields #[f0,.bool false,.ref it,rawInt i,g,old],slots:= #[]}
noncomputable def Gv (i:Int) (g:Value):Prop:=g=.none∨∃t,g=.int i t
section
variable {prog:Program} {w:World} {A:Around} {E:Value->Shared->Prop} {s:Shared}
theorem ZNW {e it:Addr} {i:Int} {xs:Array Value} {x g:Value} {Q:Value->Shared->Prop} (he:En s.heap e it .none i g old) (hg:Gv i g) (hit:sr.it s.heap it k) (hv:sr.val s.heap xs) (hx:xs[k]? =some x) (hne:e≠it)
  (hQ:∀h' t tk,En h' e it (rawInt s.heap.objs.size) (i + 1) .none x->sr.it h' it (k + 1)->h'.get? s.heap.objs.size=some {cls:=.type "tuple",data:=.seq #[.int i t,x]}->h'.objs.size=s.heap.objs.size + 1->
   (∀b o,b≠e->b≠it->s.heap.get? b=some o->h'.get? b=some o)->Q (.ref s.heap.objs.size) {s with heap:=h',toks:=tk}):
  wpAny (model prog w) A (Builtin.«enumerate.__next__» ⟨[.ref e],[]⟩) (λfin s'=>∃v,fin=.done (.ret v)/\Q v s') E s:=by
 obtain ⟨hp,gg,d,tk,os⟩:=s;refine wpAny_bind (m:=field (.ref e) 2) (wpAny_field he rfl (x:=.ref it) rfl (wpAny_bind (m:=Builtin.SmallTypes.nextOf (.ref it)) (Src.next_item hit hv hx λh₁ hit₁ hs₁=> ?_)));have he₁:En h₁ e it .none i g old:=(hs₁.2 e hne).trans he;have k₁:∀b o,b≠e->b≠it->hp.get? b=some o->h₁.get? b=some o:=λb o _ hb q=>hs₁.extBut b o hb q
 have z₁:h₁.objs.size=hp.objs.size:=hs₁.1;refine wpAny_bind (m:=field (.ref e) 3) (wpAny_field he₁ rfl (x:=rawInt i) rfl ?_);refine wpAny_bind (m:=field (.ref e) 4) (wpAny_field he₁ rfl (x:=g) rfl ?_)
 have rest:∀(t:Tok) (tk':Nat),wpAny (model prog w) A (do
   setField (.ref e) 3 (rawInt (i + 1));setField (.ref e) 4 .none
   let result<-newTuple [.int i t,x]
   if<-Builtin.SmallTypes.ownedTupleIsFree (.ref e) then
    rule "enumerate.__next__.owned-tuple-again"
    let old<-field (.ref e) 5
    setField (.ref e) 5 x
    Builtin.SmallTypes.ownedTupleHandOut (.ref e) result
    PySem.letGo [old] [result]
   ret result) (λfin s'=>∃v,fin=.done (.ret v)/\Q v s') E ⟨h₁,gg,d,tk',os⟩:=by
  intro t tk';refine wpAny_bind (wpAny_setField_rec he₁ (by simp) λh₂ he₂ hs₂=> ?_);refine wpAny_bind (wpAny_setField_rec he₂ (by simp) λh₃ he₃ hs₃=> ?_)
  replace he₃:En h₃ e it .none (i + 1) .none old:=he₃
  have z₃:h₃.objs.size=hp.objs.size:=by rw [hs₃.1];show h₂.objs.size=_;rw [hs₂.1];exact z₁
  have k₃:∀b o,b≠e->b≠it->hp.get? b=some o->h₃.get? b=some o:=λb o h1 h2 q=>hs₃.extBut b o h1 (hs₂.extBut b o h1 (k₁ b o h1 h2 q))
  have i₃:sr.it h₃ it (k + 1):=(hit₁.at λo q=>hs₂.extBut it o (Ne.symm hne) q).at λo q=>hs₃.extBut it o (Ne.symm hne) q
  refine wpAny_bind (wpAny_newTuple ?_);generalize hh₄:h₃.push {cls:=.type "tuple",data:=.seq [Value.int i t,x].toArray}=h₄;have he₄:En h₄ e it .none (i + 1) .none old:=by rw [<-hh₄];exact Heap.get?_push_of_some _ he₃
  have ht₄:h₄.get? hp.objs.size=some {cls:=.type "tuple",data:=.seq #[.int i t,x]}:=by rw [<-hh₄,<-z₃];exact Heap.get?_push_size _ rfl
  have z₄:h₄.objs.size=hp.objs.size + 1:=by rw [<-hh₄,Heap.size_push,z₃]
  have k₄:∀b o,b≠e->b≠it->hp.get? b=some o->h₄.get? b=some o:=λb o h1 h2 q=>by rw [<-hh₄];exact Heap.get?_push_of_some _ (k₃ b o h1 h2 q)
  have i₄:sr.it h₄ it (k + 1):=i₃.at λo q=>by rw [<-hh₄];exact Heap.get?_push_of_some _ q
  have ez:e < hp.objs.size:=Heap.lt_size he;refine wpAny_bind (m:=Builtin.SmallTypes.ownedTupleIsFree (.ref e)) ?_;unfold Builtin.SmallTypes.ownedTupleIsFree;refine wpAny_bind (wpAny_field he₄ rfl (x:=.none) rfl (wpAny_pure ?_));simp only [if_true];refine wpAny_bind (wpAny_rule (wpAny_bind (wpAny_field he₄ rfl (x:=old) rfl (wpAny_bind (wpAny_setField_rec he₄ (by simp) λh₅ he₅ hs₅=> ?_)))))
  replace he₅:En h₅ e it .none (i + 1) .none x:=he₅
  refine wpAny_bind (m:=Builtin.SmallTypes.ownedTupleHandOut _ _) ?_;unfold Builtin.SmallTypes.ownedTupleHandOut;refine wpAny_bind (wpAny_setField_rec he₅ (by simp) λh₆ he₆ hs₆=> ?_);refine wpAny_setField_rec he₆ (by simp) λh₇ he₇ hs₇=> ?_
  refine wpAny_bind (wpAny_letGo (wpAny_pure ⟨_,rfl,?_⟩));have up:∀b o,b≠e->h₄.get? b=some o->h₇.get? b=some o:=λb o hb q=>hs₇.extBut b o hb (hs₆.extBut b o hb (hs₅.extBut b o hb q))
  show Q (.ref h₃.objs.size) _;rw [z₃];rw [z₃] at he₇;exact hQ h₇ t tk' he₇ (i₄.at λo q=>up it o (Ne.symm hne) q) (up _ _ (Nat.ne_of_gt ez) ht₄) (by rw [hs₇.1];show h₆.objs.size=_;rw [hs₆.1];show h₅.objs.size=_;rw [hs₅.1];exact z₄) λb o h1 h2 q=>up b o h1 (k₄ b o h1 h2 q)
 rcases hg with rfl | ⟨t,rfl⟩
 ·exact wpAny_bind (m:=mkInt i) (wpAny_mkInt (rest tk (tk + 1)))
 ·exact wpAny_bind (m:=(pure (Value.int i t):Sem Value)) (wpAny_pure (rest t tk))
theorem ZLD {e it:Addr} {i:Int} {xs:Array Value} {x g:Value} {Q:Option Value->Shared->Prop} (he:En s.heap e it .none i g old) (hg:Gv i g) (hit:sr.it s.heap it k) (hv:sr.val s.heap xs) (hx:xs[k]? =some x) (hne:e≠it)
  (hQ:∀h' t tk,En h' e it (rawInt s.heap.objs.size) (i + 1) .none x->sr.it h' it (k + 1)->h'.get? s.heap.objs.size=some {cls:=.type "tuple",data:=.seq #[.int i t,x]}->h'.objs.size=s.heap.objs.size + 1->
   (∀b o,b≠e->b≠it->s.heap.get? b=some o->h'.get? b=some o)->Q (some (.ref s.heap.objs.size)) {s with heap:=h',toks:=tk}):
  wpAny (model prog w) A (pyNext (.ref e)) Q E s:=by
 have hT:s.TypeIs (.ref e) "enumerate":=⟨_,he,rfl⟩;unfold pyNext;exact wpAny_bind (wpAny_attempt (wpAny_callSpecial?_slot (name:=Str.ofString "__next__") hT PySem.F.slot_enumerate_next
  (wpAny_call_entry PySem.F.slot_enumerate_next hT PySem.F.entry_enumerate_next (ZNW he hg hit hv hx hne λh' t tk a1 a2 a3 a4 a5=>wpAny_pure (hQ h' t tk a1 a2 a3 a4 a5)) (PySem.F.args_enumerate_next_1 _))))
theorem ZKW {e it:Addr} {i:Int} {xs:Array Value} {g:Value} {Q:Option Value->Shared->Prop} (hh:A.handled=none) (he:En s.heap e it .none i g old) (hit:sr.it s.heap it k) (hv:sr.val s.heap xs) (hx:xs[k]? =none)
  (hQ:∀h',Heap.ExtBut it s.heap h'->Q none {s with heap:=h'}):wpAny (model prog w) A (pyNext (.ref e)) Q E s:=by
 have hT:s.TypeIs (.ref e) "enumerate":=⟨_,he,rfl⟩;unfold pyNext;refine wpAny_bind (wpAny_attempt (wpAny_callSpecial?_slot (name:=Str.ofString "__next__") hT PySem.F.slot_enumerate_next
  (wpAny_call_entry PySem.F.slot_enumerate_next hT PySem.F.entry_enumerate_next (wpAny_bind (m:=field (.ref e) 2) (wpAny_field he rfl (x:=.ref it) rfl (wpAny_bind (m:=Builtin.SmallTypes.nextOf (.ref it)) (Src.next_end hh hit hv hx λh' x he' hx'=> ?_)))) (PySem.F.args_enumerate_next_1 _))))
 obtain ⟨o,ho,hc⟩:=hx';exact wpAny_bind (wpAny_isInstance (T:="StopIteration") (b:=true) ⟨o,ho,hc⟩ isSubtype_stop (wpAny_pure (hQ _ he')))
theorem ZPX {elts:List Expr} {x1} {pos:Pos} {e it a:Addr} {i:Int} {g:Value} {Q:Unit->Shared->Prop} (he:En s.heap e it (rawInt a) i g old)
  (hQ:∀h',En h' e it .none i g old->Heap.SameBut e s.heap h'->Q () {s with heap:=h'}):wpAny (model prog w) A (letOwnedTupleGo (.Tuple elts x1 pos) (.ref e) (.ref a)) Q E s:=by
 unfold letOwnedTupleGo;refine wpAny_bind (wpAny_load he ?_);dsimp only;rw [if_pos (by simp)];exact wpAny_bind (wpAny_rule (wpAny_setField_rec he (by simp) λh' he' hs'=>hQ h' he' hs'))
theorem ZB1 {e it:Addr} {f0:Value} {i:Int} {g:Value} {Q:Value->Shared->Prop} (he:En s.heap e it f0 i g old) (h:Q (.ref e) s):wpAny (model prog w) A (pyIter (.ref e)) Q E s:=by have hT:s.TypeIs (.ref e) "enumerate":=⟨_,he,rfl⟩;exact wpAny_pyIter_slot hT PySem.F.slot_enumerate_iter (wpAny_call_entry PySem.F.slot_enumerate_iter hT PySem.F.entry_enumerate_iter (wpAny_pure ⟨_,rfl,"enumerate",_,hT,PySem.F.slot_enumerate_next.lookup,h⟩) (PySem.F.args_enumerate_iter_1 _))
end
noncomputable abbrev Tp (h:Heap) (T:Addr) (xs:List Value):Prop:=h.get? T=some {cls:=.type "tuple",data:=.seq xs.toArray}
inductive Drw (h:Heap) (i:Nat):List (Src×Addr)->List Value->Prop where
 | nil:Drw h i [] []
 | cons {sr p r x us xs} (hit:Src.it h p i sr) (hv:sr.val h xs) (hx:xs[i]? =some x) (t:Drw h i r us):Drw h i ((sr,p)::r) (x::us)
theorem Drw.length {us:List Value} (d:Drw h i l us):us.length=l.length:=by
 induction d with
 | nil=>rfl
 | cons _ _ _ _ ih=>simp [ih]
section
variable {prog:Program} {w:World} {A:Around} {E:Value->Shared->Prop} {s:Shared}
theorem ZI7 {T:Addr} {xs:List Value} {x:Value} {Q:Unit->Shared->Prop} (hT:Tp s.heap T xs) (hz:xs.length<=1000000)
  (h:∀h',Tp h' T (xs.set k x)->Heap.SameBut T s.heap h'->Q () {s with heap:=h'}):wpAny (model prog w) A (updateSeq T (·.setIfInBounds k x)) Q E s:=by
 have h1:xs.toArray.size<=sizeLine:=by rw [List.size_toArray];exact Nat.le_trans hz size6
 refine wpAny_updateSeq hT rfl (h _ ?_ (Heap.SameBut.update ..)) h1 (by rw [Array.size_setIfInBounds];exact Nat.le_succ_of_le h1);show (s.heap.update T _).get? T=_;rw [Heap.get?_update_self _ hT rfl];simp [Obj.mapSeq]
noncomputable def ZS (prog:Program) (w:World) (A:Around) (E:Value->Shared->Prop) (z TO p:Addr) (k:Nat) (R:Shared->Prop) (s:Shared):Prop:=
 wpAny (model prog w) A (Builtin.SmallTypes.nextOf (.ref p)) (λx s1=>∃os,Tp s1.heap TO os/\os.length<=1000000/\∀h',Tp h' TO (os.set k x)->Heap.SameBut TO s1.heap h'->R {s1 with heap:=h'})
  (λe s'=>wpAny (model prog w) A (setField (.ref z) 0 .none) (λ_ s''=>E e s'') E s') s
theorem ZEL {TO:Addr} {xs:Array Value} {x:Value} {Q:Shared->Prop} (hTO:Tp s.heap TO os) (hz:os.length<=1000000) (hit:sr.it s.heap p i) (hv:sr.val s.heap xs) (hx:xs[i]? =some x)
  (h:∀h',Tp h' TO (os.set k x)->sr.it h' p (i + 1)->(∀b o,b≠TO->b≠p->s.heap.get? b=some o->h'.get? b=some o)->h'.objs.size=s.heap.objs.size->Q {s with heap:=h'}):ZS prog w A E z TO p k Q s:=by
 have hne:TO≠p:=λe=>by
  obtain ⟨o,ho,hc,_⟩:=hit;rw [<-e,hTO] at ho;cases ho
  cases sr <;> (simp [Src.itn] at hc)
 refine Src.next_item hit hv hx λh₁ it₁ sb₁=>⟨os,sb₁.extBut _ _ hne hTO,hz,λh₂ t₂ sb₂=> ?_⟩
 exact h h₂ t₂ (it₁.at λo e=>sb₂.extBut _ _ (Ne.symm hne) e) (λb o b1 b2 e=>sb₂.extBut b o b1 (sb₁.extBut b o b2 e)) (by rw [sb₂.1];show h₁.objs.size=_;rw [sb₁.1])
theorem ZEr {TO:Addr} {body:Value×Nat->Option Fin×PUnit->Sem (ForInStep (Option Fin×PUnit))} {R:Option Fin×PUnit->Shared->Prop}
  (hb:∀(p:Addr) (k:Nat) (s:Shared) (R':ForInStep (Option Fin×PUnit)->Shared->Prop),ZS prog w A E z TO p k (λs'=>R' (.yield (none,⟨⟩)) s') s->
   wpAny (model prog w) A (body (.ref p,k) (none,⟨⟩)) R' E s):
  ∀(l:List (Src×Addr)) (us pre post:List Value) (s:Shared),Drw s.heap i l us->Tp s.heap TO (pre++post)->post.length=l.length->(pre++post).length<=1000000->(l.map (·.2)).Nodup->(∀q∈l,q.1.adr≠TO)->(∀q∈l,∀r∈l,q.1.adr≠r.2)->
   (∀h',Tp h' TO (pre++us)->(∀q∈l,q.1.it h' q.2 (i + 1))->(∀b o,b≠TO->b ∉ l.map (·.2)->s.heap.get? b=some o->h'.get? b=some o)->h'.objs.size=s.heap.objs.size->R (none,⟨⟩) {s with heap:=h'})->
   wpAny (model prog w) A (forIn ((l.map λq=>Value.ref q.2).zipIdx pre.length) (none,⟨⟩) body) R E s
 | [],us,pre,post,s,d,hT,hl,hz,nd,na,np,hR=>by
  cases d;cases post with
  | cons _ _=>simp at hl
  | nil=>
   rw [List.map_nil,List.zipIdx_nil,List.forIn_nil];exact wpAny_pure (hR s.heap hT (λq hq=>by cases hq) (λb o _ _ e=>e) rfl)
 | (sr,p)::l,us,pre,post,s,d,hT,hl,hz,nd,na,np,hR=>by
  cases d with
  | @cons _ _ _ x us xs hit hv hx d=>
  cases post with
  | nil=>simp at hl
  | cons y post=>
   rw [List.map_cons,List.zipIdx_cons,List.forIn_cons];refine wpAny_bind (hb p pre.length s _ (ZEL hT hz hit hv hx λh' hT' it' kp sz=> ?_));have e1:(pre++y::post).set pre.length x=(pre++ [x])++post:=by simp
   rw [e1] at hT';have e2:pre.length + 1=(pre++ [x]).length:=by simp
   dsimp only;rw [e2]
   have nd':p ∉ l.map (·.2)/\(l.map (·.2)).Nodup:=by simpa using nd
   have hTOp:∀q∈l,q.2≠TO:=λq hq e=>by
    have:∃sr k,Src.it s.heap q.2 k sr:=by
     clear hR na np nd nd' e1 e2 hl hT' hz
     induction d with
     | nil=>cases hq
     | cons hit _ _ _ ih=>
      rcases List.mem_cons.mp hq with rfl | hq
      ·exact ⟨_,_,hit⟩
      ·exact ih hq
    obtain ⟨sr',k,o,ho,hc,_⟩:=this;rw [e,hT] at ho;cases ho
    cases sr' <;> (simp [Src.itn] at hc)
   have d':Drw h' i l us:=by
    have na':∀q∈l,q.1.adr≠TO:=λq hq=>na q (List.mem_cons_of_mem _ hq)
    have np':∀q∈l,q.1.adr≠p:=λq hq=>np q (List.mem_cons_of_mem _ hq) (sr,p) List.mem_cons_self
    have pp:∀q∈l,q.2≠p:=λq hq e=>nd'.1 (List.mem_map.mpr ⟨q,hq,e⟩)
    clear hR na np nd nd' e1 e2 hl hT' hz
    induction d with
    | nil=>exact .nil
    | @cons sr1 p1 r1 x1 us1 xs1 hit1 hv1 hx1 t1 ih=>
     refine .cons (hit1.at λo e=>kp _ o (hTOp _ List.mem_cons_self) (pp _ List.mem_cons_self) e) (hv1.at λo e=>kp _ o (na' _ List.mem_cons_self) (np' _ List.mem_cons_self) e) hx1 ?_;exact ih (λq hq=>hTOp q (List.mem_cons_of_mem _ hq)) (λq hq=>na' q (List.mem_cons_of_mem _ hq)) (λq hq=>np' q (List.mem_cons_of_mem _ hq)) (λq hq=>pp q (List.mem_cons_of_mem _ hq))
   refine ZEr hb l us (pre++ [x]) post {s with heap:=h'} d' hT' (by simpa using hl) (by simpa using hz) nd'.2 (λq hq=>na q (List.mem_cons_of_mem _ hq)) (λq hq r hr=>np q (List.mem_cons_of_mem _ hq) r (List.mem_cons_of_mem _ hr)) λh'' t'' its'' kp'' sz''=> ?_
   have hpTO:p≠TO:=λe=>by
    obtain ⟨o,ho,hc,_⟩:=hit;rw [e,hT] at ho;cases ho
    cases sr <;> (simp [Src.itn] at hc)
   refine hR h'' (by simpa using t'') (λq hq=> ?_) (λb o b1 b2 e=> ?_) (sz''.trans sz)
   ·rcases List.mem_cons.mp hq with rfl | hq
    ·exact it'.at λo e=>kp'' _ o hpTO nd'.1 e
    ·exact its'' q hq
   ·simp only [List.map_cons,List.mem_cons,not_or] at b2;exact kp'' b o b1 b2.2 (kp b o b1 b2.1 e)
end
inductive DrwE (h:Heap) (i:Nat):List (Src×Addr)->Prop where
 | here {sr p r xs} (hit:Src.it h p i sr) (hv:sr.val h xs) (hx:xs[i]? =none):DrwE h i ((sr,p)::r)
 | there {sr p r x xs} (hit:Src.it h p i sr) (hv:sr.val h xs) (hx:xs[i]? =some x) (t:DrwE h i r):DrwE h i ((sr,p)::r)
structure ApZ (TO:Addr) (l:List (Src×Addr)):Prop where
 nd:(l.map (·.2)).Nodup
 na:∀q∈l,q.1.adr≠TO
 np:∀q∈l,∀r∈l,q.1.adr≠r.2
 to:∀q∈l,q.2≠TO
theorem ApZ.tail {TO:Addr} {q:Src×Addr} (a:ApZ TO (q::l)):ApZ TO l:=
 ⟨(List.nodup_cons.mp (by simpa using a.nd)).2,λq hq=>a.na q (List.mem_cons_of_mem _ hq),λq hq r hr=>a.np q (List.mem_cons_of_mem _ hq) r (List.mem_cons_of_mem _ hr),λq hq=>a.to q (List.mem_cons_of_mem _ hq)⟩
section
variable {prog:Program} {w:World} {A:Around} {E:Value->Shared->Prop} {s:Shared}
theorem DrwE.at {TO:Addr} (a:ApZ TO ((sr,p)::l)) (kp:∀b o,b≠TO->b≠p->h.get? b=some o->h'.get? b=some o) (d:DrwE h i l):DrwE h' i l:=by
 have pp:∀q∈l,q.2≠p:=λq hq e=>(List.nodup_cons.mp (by simpa using a.nd)).1 (List.mem_map.mpr ⟨q,hq,e⟩)
 have np:∀q∈l,q.1.adr≠p:=λq hq=>a.np q (List.mem_cons_of_mem _ hq) (sr,p) List.mem_cons_self
 have a':=a.tail;clear a
 induction d with
 | here hit hv hx=>exact .here (hit.at λo e=>kp _ o (a'.to _ List.mem_cons_self) (pp _ List.mem_cons_self) e) (hv.at λo e=>kp _ o (a'.na _ List.mem_cons_self) (np _ List.mem_cons_self) e) hx
 | there hit hv hx t ih=>
  exact .there (hit.at λo e=>kp _ o (a'.to _ List.mem_cons_self) (pp _ List.mem_cons_self) e) (hv.at λo e=>kp _ o (a'.na _ List.mem_cons_self) (np _ List.mem_cons_self) e) hx
   (ih (λq hq=>pp q (List.mem_cons_of_mem _ hq)) (λq hq=>np q (List.mem_cons_of_mem _ hq)) a'.tail)
theorem ZEp {TO:Addr} {body:Value×Nat->Option Fin×PUnit->Sem (ForInStep (Option Fin×PUnit))} {R:Option Fin×PUnit->Shared->Prop} (hh:A.handled=none)
  (hb:∀(p:Addr) (k:Nat) (s:Shared) (R':ForInStep (Option Fin×PUnit)->Shared->Prop),ZS prog w A E z TO p k (λs'=>R' (.yield (none,⟨⟩)) s') s->
   wpAny (model prog w) A (body (.ref p,k) (none,⟨⟩)) R' E s):
  ∀(l:List (Src×Addr)) (os:List Value) (n:Nat) (s:Shared),DrwE s.heap i l->Tp s.heap TO os->os.length<=1000000->ApZ TO l->
   (∀h' e,(∀b o,b≠TO->b ∉ l.map (·.2)->s.heap.get? b=some o->h'.get? b=some o)->(∃o,h'.get? e=some o/\o.cls=.type "StopIteration")->wpAny (model prog w) A (setField (.ref z) 0 .none) (λ_ s''=>E (.ref e) s'') E {s with heap:=h'})->
   wpAny (model prog w) A (forIn ((l.map λq=>Value.ref q.2).zipIdx n) (none,⟨⟩) body) R E s
 | [],os,n,s,d,hT,hz,a,hE=>by cases d
 | (sr,p)::l,os,n,s,d,hT,hz,a,hE=>by
  rw [List.map_cons,List.zipIdx_cons,List.forIn_cons];refine wpAny_bind (hb p n s _ ?_);cases d with
  | here hit hv hx=>
   exact Src.next_end hh hit hv hx λh' e xb st=>hE h' e (λb o b1 b2 q=>xb b o (λz=>b2 (by rw [z];simp)) q) st
  | there hit hv hx t=>
   refine ZEL hT hz hit hv hx λh' hT' it' kp sz=> ?_
   refine ZEp hh hb l _ (n + 1) {s with heap:=h'} (t.at a kp) hT' (by simpa using hz) a.tail λh'' e kp'' st=> ?_
   refine hE h'' e (λb o b1 b2 q=> ?_) st;simp only [List.map_cons,List.mem_cons,not_or] at b2;exact kp'' b o b1 b2.2 (kp b o b1 b2.1 q)
theorem ZFe {TI TO:Addr} {R:Fin->Shared->Prop} (hz:IsZip s.heap z TI TO .none) (hTI:Tp s.heap TI (l.map λq=>Value.ref q.2)) (hne:l≠ [])
  (h:∀h₁,IsZip h₁ z TI TO .ellipsis->Heap.SameBut z s.heap h₁->∀body:Value×Nat->Option Fin×PUnit->Sem (ForInStep (Option Fin×PUnit)),
   (∀(p:Addr) (k:Nat) (s:Shared) (R':ForInStep (Option Fin×PUnit)->Shared->Prop),ZS prog w A E z TO p k (λs'=>R' (.yield (none,⟨⟩)) s') s->
    wpAny (model prog w) A (body (.ref p,k) (none,⟨⟩)) R' E s)->
   wpAny (model prog w) A (forIn ((l.map λq=>Value.ref q.2).zipIdx 0) (none,⟨⟩) body) (λr s'=>r.1=none/\∃us,Tp s'.heap TO us/\us.length<=1000000/\IsZip s'.heap z TI TO .ellipsis/\
    ∀h',IsZip h' z TI TO (rawInt s'.heap.objs.size)->Tp h' s'.heap.objs.size us->h'.objs.size=s'.heap.objs.size + 1->(∀b o,b≠z->s'.heap.get? b=some o->h'.get? b=some o)->R (.done (.ret (.ref s'.heap.objs.size))) {s' with heap:=h'}) E {s with heap:=h₁}):
  wpAny (model prog w) A (Builtin.«zip.__next__» ⟨[.ref z],[]⟩) R E s:=by
 refine wpAny_bind (m:=field (.ref z) 2) (wpAny_field hz rfl (x:=.bool false) rfl (wpAny_bind (m:=field (.ref z) 3) (wpAny_field hz rfl (x:=.ref TI) rfl (wpAny_bind (m:=seqItems? (.ref TI)) (wpAny_seqItems hTI rfl ?_)))));dsimp only;have hemp:(l.map λq=>Value.ref q.2).toArray.isEmpty=false:=by cases l with
  | nil=>exact absurd rfl hne
  | cons _ _=>simp
 rw [hemp];refine wpAny_bind (m:=Builtin.SmallTypes.ownedTupleIsFree (.ref z)) ?_;unfold Builtin.SmallTypes.ownedTupleIsFree;refine wpAny_bind (wpAny_field hz rfl (x:=.none) rfl (wpAny_pure ?_));simp only [if_true];refine wpAny_bind (wpAny_rule (wpAny_bind (wpAny_field hz rfl (x:=.ref TO) rfl (wpAny_bind (wpAny_setField_rec hz (by simp) λh₁ hz₁ hs₁=> ?_)))));refine wpAny_bind (wpAny_mono (h h₁ hz₁ hs₁ _ λp k s R' hst=> ?_) (λr s' hr=> ?_) λ_ _ x=>x)
 ·refine wpAny_bind (wpAny_onRaise ?_);show wpAny _ _ (Builtin.SmallTypes.nextOf (.ref p) >>=λv=>pure (some v)) _ _ s;refine wpAny_bind (wpAny_mono hst (λx s1 hx=>wpAny_pure ?_) λ_ _ x=>x);obtain ⟨os,hT,hl,hR⟩:=hx;dsimp only;refine wpAny_bind (wpAny_seqItems hT rfl ?_);dsimp only;exact wpAny_bind (ZI7 hT hl λh' t' sb=>wpAny_bind (wpAny_letGo (wpAny_pure (hR h' t' sb))))
 ·obtain ⟨hn,us,hT,hl,hzz,hR⟩:=hr;rw [hn];dsimp only;refine wpAny_bind (wpAny_seqItems hT rfl ?_);dsimp only;refine wpAny_bind (wpAny_newTuple ?_ (by show us.toArray.toList.length<=_;simpa using Nat.le_trans hl size6));have hzlt:z < s'.heap.objs.size:=Heap.lt_size hzz;refine wpAny_bind (m:=Builtin.SmallTypes.ownedTupleHandOut _ _) ?_;unfold Builtin.SmallTypes.ownedTupleHandOut;have e1:us.toArray.toList.toArray=us.toArray:=by simp
  rw [e1];have hz2:IsZip (s'.heap.push {cls:=.type "tuple",data:=.seq us.toArray}) z TI TO .ellipsis:=Heap.get?_push_of_some _ hzz;refine wpAny_bind (wpAny_setField_rec hz2 (by simp) λh₇ hz₇ hs₇=> ?_);refine wpAny_setField_rec hz₇ (by simp) λh₈ hz₈ hs₈=> ?_
  refine wpAny_pure (hR h₈ hz₈ ?_ ?_ λb o hb q=>hs₈.extBut _ _ hb (hs₇.extBut _ _ hb (Heap.get?_push_of_some _ q)))
  ·exact hs₈.extBut _ _ (Nat.ne_of_gt hzlt) (hs₇.extBut _ _ (Nat.ne_of_gt hzlt) (Heap.get?_push_size _ rfl))
  ·rw [hs₈.1];show h₇.objs.size=_;rw [hs₇.1,Heap.size_push]
theorem ZMT {TI TO:Addr} {us:List Value} {Q:Option Value->Shared->Prop} (hz:IsZip s.heap z TI TO .none) (hTI:Tp s.heap TI (l.map λq=>Value.ref q.2)) (hTO:Tp s.heap TO os) (hlen:os.length=l.length) (hsz:l.length<=1000000) (hne:l≠ [])
  (a:ApZ TO l) (zz:z≠TO/\(∀q∈l,q.2≠z/\q.1.adr≠z)) (d:Drw s.heap i l us)
  (hQ:∀h',IsZip h' z TI TO (rawInt s.heap.objs.size)->Tp h' TO us->(∀q∈l,q.1.it h' q.2 (i + 1))->Tp h' s.heap.objs.size us->h'.objs.size=s.heap.objs.size + 1->
   (∀b o,b≠z->b≠TO->b ∉ l.map (·.2)->s.heap.get? b=some o->h'.get? b=some o)->Q (some (.ref s.heap.objs.size)) {s with heap:=h'}):wpAny (model prog w) A (pyNext (.ref z)) Q E s:=by
 have hT:s.TypeIs (.ref z) "zip":=⟨_,hz,rfl⟩;unfold pyNext;refine wpAny_bind (wpAny_attempt (wpAny_callSpecial?_slot (name:=Str.ofString "__next__") hT PySem.F.slot_zip_next (wpAny_call_entry PySem.F.slot_zip_next hT PySem.F.entry_zip_next ?_ (PySem.F.args_zip_next_1 _))));refine ZFe hz hTI hne λh₁ hz₁ hs₁ body hb=> ?_
 have k₁:∀b o,b≠z->s.heap.get? b=some o->h₁.get? b=some o:=λb o hb q=>hs₁.extBut b o hb q
 have d₁:Drw h₁ i l us:=by
  have h1:∀q∈l,q.2≠z/\q.1.adr≠z:=zz.2;clear hTI hlen hsz hne a zz hQ
  induction d with
  | nil=>exact .nil
  | cons hit hv hx t ih=>exact .cons (hit.at λo e=>k₁ _ o (h1 _ List.mem_cons_self).1 e) (hv.at λo e=>k₁ _ o (h1 _ List.mem_cons_self).2 e) hx (ih λq hq=>h1 q (List.mem_cons_of_mem _ hq))
 refine ZEr (z:=z) (TO:=TO) (i:=i) hb l us [] os {s with heap:=h₁} d₁ (k₁ _ _ (Ne.symm zz.1) hTO) hlen (by simpa [hlen] using hsz) a.nd a.na a.np λh₂ t₂ it₂ k₂ sz₂=>⟨rfl,us,t₂,by rw [d.length];exact hsz,?_,λh₃ z₃ p₃ s₃ k₃=> ?_⟩
 ·refine k₂ _ _ zz.1 (λhm=> ?_) hz₁;obtain ⟨q,hq,e⟩:=List.mem_map.mp hm;exact (zz.2 q hq).1 e
 ·have e2:h₂.objs.size=s.heap.objs.size:=by rw [sz₂];exact hs₁.1
  refine ⟨_,rfl,wpAny_pure ?_⟩;show Q (some (.ref h₂.objs.size)) _;have z₃':IsZip h₃ z TI TO (rawInt h₂.objs.size):=z₃;have p₃':Tp h₃ h₂.objs.size us:=p₃;have s₃':h₃.objs.size=h₂.objs.size + 1:=s₃;have k₃':∀b o,b≠z->h₂.get? b=some o->h₃.get? b=some o:=k₃;rw [e2] at z₃' p₃' s₃' ⊢;exact hQ h₃ z₃' (k₃' _ _ (Ne.symm zz.1) t₂) (λq hq=>(it₂ q hq).at λo e=>k₃' _ o (zz.2 q hq).1 e) p₃' s₃' λb o b1 b2 b3 q=>k₃' b o b1 (k₂ b o b2 b3 (k₁ b o b1 q))
theorem ZON {TI TO:Addr} {Q:Option Value->Shared->Prop} (hh:A.handled=none) (hz:IsZip s.heap z TI TO .none) (hTI:Tp s.heap TI (l.map λq=>Value.ref q.2)) (hTO:Tp s.heap TO os) (hlen:os.length=l.length) (hsz:l.length<=1000000) (hne:l≠ [])
  (a:ApZ TO l) (zz:z≠TO/\(∀q∈l,q.2≠z/\q.1.adr≠z)) (d:DrwE s.heap i l)
  (hQ:∀h',(∀b o,b≠z->b≠TO->b ∉ l.map (·.2)->s.heap.get? b=some o->h'.get? b=some o)->Q none {s with heap:=h'}):wpAny (model prog w) A (pyNext (.ref z)) Q E s:=by
 have hT:s.TypeIs (.ref z) "zip":=⟨_,hz,rfl⟩;unfold pyNext;refine wpAny_bind (wpAny_attempt (wpAny_callSpecial?_slot (name:=Str.ofString "__next__") hT PySem.F.slot_zip_next (wpAny_call_entry PySem.F.slot_zip_next hT PySem.F.entry_zip_next ?_ (PySem.F.args_zip_next_1 _))));refine ZFe hz hTI hne λh₁ hz₁ hs₁ body hb=> ?_
 have k₁:∀b o,b≠z->s.heap.get? b=some o->h₁.get? b=some o:=λb o hb q=>hs₁.extBut b o hb q
 have d₁:DrwE h₁ i l:=by
  have h1:∀q∈l,q.2≠z/\q.1.adr≠z:=zz.2;clear hTI hlen hsz hne a zz hQ
  induction d with
  | here hit hv hx=>exact .here (hit.at λo e=>k₁ _ o (h1 _ List.mem_cons_self).1 e) (hv.at λo e=>k₁ _ o (h1 _ List.mem_cons_self).2 e) hx
  | there hit hv hx t ih=>exact .there (hit.at λo e=>k₁ _ o (h1 _ List.mem_cons_self).1 e) (hv.at λo e=>k₁ _ o (h1 _ List.mem_cons_self).2 e) hx (ih λq hq=>h1 q (List.mem_cons_of_mem _ hq))
 refine ZEp (A:=A.in1) (z:=z) (TO:=TO) (i:=i) (show A.in1.handled=none from hh) hb l os 0 {s with heap:=h₁} d₁ (k₁ _ _ (Ne.symm zz.1) hTO) (by rw [hlen];exact hsz) a λh₂ e k₂ st=> ?_
 have hz₂:IsZip h₂ z TI TO .ellipsis:=by refine k₂ _ _ zz.1 (λhm=> ?_) hz₁;obtain ⟨q,hq,e⟩:=List.mem_map.mp hm;exact (zz.2 q hq).1 e
 obtain ⟨o,ho,hc⟩:=st;have hez:e≠z:=λx=>by subst x;rw [hz₂] at ho;cases ho;simp at hc
 refine wpAny_setField_rec hz₂ (by simp) λh₃ _ hs₃=> ?_
 refine wpAny_bind (wpAny_isInstance (T:="StopIteration") (b:=true) ⟨o,hs₃.extBut _ _ hez ho,hc⟩ isSubtype_stop (wpAny_pure ?_));exact hQ h₃ λb o b1 b2 b3 q=>hs₃.extBut _ _ b1 (k₂ b o b2 b3 (k₁ b o b1 q))
theorem ZFf:∀(ls:List Src) (pre:Array Value) (s:Shared) {Q:Array Value->Shared->Prop},(∀sr∈ls,∃xs,sr.val s.heap xs)->
  (∀h',(∀q∈ls.zipIdx s.heap.objs.size,q.1.it h' q.2 0)->h'.objs.size=s.heap.objs.size + ls.length->(∀b o,s.heap.get? b=some o->h'.get? b=some o)->Q (pre++((ls.zipIdx s.heap.objs.size).map λq=>Value.ref q.2).toArray) {s with heap:=h'})->
  wpAny (model prog w) A (forIn (ls.map λsr=>Value.ref sr.adr) pre λx r=>do let v<-holding r.toList (pyIter x);pure (ForInStep.yield (r.push v))) Q E s
 | [],pre,s,Q,hv,h=>by rw [List.map_nil,List.forIn_nil];refine wpAny_pure ?_;have:=h s.heap (λq hq=>by cases hq) rfl (λ_ _ e=>e);simpa using this
 | sr::ls,pre,s,Q,hv,h=>by
  rw [List.map_cons,List.forIn_cons];obtain ⟨xs,hx⟩:=hv sr List.mem_cons_self;refine wpAny_bind (wpAny_bind (wpAny_holding (Src.iter hx (wpAny_pure ?_))));dsimp only;have z1:(s.heap.push {cls:=.type sr.itn,data:=.fields #[.ref sr.adr,.int 0 0]}).objs.size=s.heap.objs.size + 1:=Heap.size_push ..;refine ZFf ls (pre.push (.ref s.heap.objs.size)) {s with heap:=s.heap.push {cls:=.type sr.itn,data:=.fields #[.ref sr.adr,.int 0 0]}} (λsr' hm=> ?_) λh' hi hz kp=> ?_
  ·obtain ⟨ys,hy⟩:=hv sr' (List.mem_cons_of_mem _ hm);exact ⟨ys,hy.at λo e=>Heap.get?_push_of_some _ e⟩
  ·dsimp only at hi hz kp ⊢;rw [z1] at hi hz ⊢;have:=h h' (λq hq=> ?_) (by rw [hz,List.length_cons];lia) (λb o e=>kp b o (Heap.get?_push_of_some _ e))
   ·rw [List.zipIdx_cons,List.map_cons] at this;simpa using this
   ·rw [List.zipIdx_cons] at hq;rcases List.mem_cons.mp hq with rfl | hq
    ·exact ⟨_,kp _ _ (Heap.get?_push_size _ rfl),rfl,rfl⟩
    ·exact hi q hq
theorem ZMH {ls:List Src} {Q:Value->Shared->Prop} (hv:∀sr∈ls,∃xs,sr.val s.heap xs) (hl:ls.length<=1000000)
  (hct:checkTypeCall "zip" ⟨ls.map λsr=>Value.ref sr.adr,[]⟩=pure ()) (hcn:checkBuiltinCall "zip.__new__" ⟨.type "zip"::ls.map λsr=>Value.ref sr.adr,[]⟩=pure ()) (hok:∀obj,argsOk "object.__init__" ⟨obj::ls.map λsr=>Value.ref sr.adr,[]⟩)
  (h:∀h' n,n=s.heap.objs.size + ls.length->IsZip h' (n + 2) n (n + 1) .none->Tp h' n ((ls.zipIdx s.heap.objs.size).map λq=>Value.ref q.2)->Tp h' (n + 1) (ls.map λ_=>Value.none)->(∀q∈ls.zipIdx s.heap.objs.size,q.1.it h' q.2 0)->
   (∀b o,s.heap.get? b=some o->h'.get? b=some o)->Q (.ref (n + 2)) {s with heap:=h'}):
  wpAny (model prog w) A (call (.type "zip") (ls.map λsr=>Value.ref sr.adr)) Q E s:=by
 have g:Meets (Builtin.«zip.__new__» ⟨.type "zip"::ls.map λsr=>Value.ref sr.adr,[]⟩) (λ_ R s=>(∀sr∈ls,∃xs,sr.val s.heap xs)/\
   ∀h' n,n=s.heap.objs.size + ls.length->IsZip h' (n + 2) n (n + 1) .none->Tp h' n ((ls.zipIdx s.heap.objs.size).map λq=>Value.ref q.2)->Tp h' (n + 1) (ls.map λ_=>Value.none)->(∀q∈ls.zipIdx s.heap.objs.size,q.1.it h' q.2 0)->
    (∀b o,s.heap.get? b=some o->h'.get? b=some o)->R (.ok (.ret (.ref (n + 2)))) {s with heap:=h'}):=
  .of_wp λprog w A R s hh=>by
   obtain ⟨hv,hR⟩:=hh;have hsub:=sub_zip;unfold Builtin.«zip.__new__» Builtin.SmallTypes.newClass
   wp_walk
   refine ZFf ls #[] s hv λh1 hi hz kp=>wpAny_pure ?_
   have e1:(#[]++((ls.zipIdx s.heap.objs.size).map λq=>Value.ref q.2).toArray:Array Value).toList=(ls.zipIdx s.heap.objs.size).map λq=>Value.ref q.2:=by simp
   rw [e1];have hlen:((ls.zipIdx s.heap.objs.size).map λq=>Value.ref q.2).length=ls.length:=by simp
   refine wpAny_bind (wpAny_newTuple ?_ (by rw [hlen];exact Nat.le_trans hl size6));refine wpAny_bind (wpAny_newTuple ?_ (by rw [List.length_map,hlen];exact Nat.le_trans hl size6));refine wpAny_bind ?_;unfold Builtin.SmallTypes.newRecord;dsimp only;refine wpAny_newObj_type (wpAny_pure ⟨_,rfl,?_⟩) (by simp [sizeOk,Builtin.SmallTypes.ownedTupleFields,sizeLine_eq]);generalize e2:s.heap.objs.size + ls.length=n at *
   have e3:((ls.zipIdx s.heap.objs.size).map λq=>Value.ref q.2).map (λ_=>Value.none)=ls.map λ_=>Value.none:=by refine List.ext_getElem (by simp) λi h1 h2=>by simp
   dsimp only;rw [e3];generalize ((ls.zipIdx s.heap.objs.size).map λq=>Value.ref q.2)=us at *;generalize (ls.map λ_=>Value.none)=ns at *;have s1:(h1.push {cls:=.type "tuple",data:=.seq us.toArray}).objs.size=n + 1:=by rw [Heap.size_push,hz]
   have s2:((h1.push {cls:=.type "tuple",data:=.seq us.toArray}).push {cls:=.type "tuple",data:=.seq ns.toArray}).objs.size=n + 2:=by rw [Heap.size_push,s1]
   show R (.ok (.ret (.ref ((h1.push {cls:=.type "tuple",data:=.seq us.toArray}).push {cls:=.type "tuple",data:=.seq ns.toArray}).objs.size))) _;rw [s2];refine hR _ n rfl ?_ (Heap.get?_push_of_some _ (Heap.get?_push_of_some _ (by rw [<-hz];exact Heap.get?_push_size _ rfl))) (Heap.get?_push_of_some _ (by rw [<-s1];exact Heap.get?_push_size _ rfl)) (λq hq=>(hi q hq).at λo e=>Heap.get?_push_of_some _ (Heap.get?_push_of_some _ (Heap.get?_push_of_some _ e))) λb o e=>Heap.get?_push_of_some _ (Heap.get?_push_of_some _ (Heap.get?_push_of_some _ (kp b o e)))
   have:=Heap.get?_push_size ((h1.push {cls:=.type "tuple",data:=.seq us.toArray}).push {cls:=.type "tuple",data:=.seq ns.toArray}) (o:={cls:=.type "zip",data:=.fields #[.none,.bool false,.bool false,.ref h1.objs.size,.ref (h1.push {cls:=.type "tuple",data:=.seq us.toArray}).objs.size]}) rfl;rw [s2] at this;rw [hz,s1] at this;show _=_;rw [hz,s1];exact this
 refine callType_new PySem.F.called_zip (by decide) hct hcn hok PySem.F.entry_zip_new g ⟨hv,λh' n hn hz hTI hTO hi kp=>⟨⟨_,hz,rfl⟩,h h' n hn hz hTI hTO hi kp⟩⟩
end
end DL
namespace DL
open PySem PySem.W PyProof.Rows
variable {nrem:Nat}
section
noncomputable def Cp (lt:Nat->Nat->Bool) {α:Type}:KasT α->α
 | .ret a=>a
 | .ask i j k=>Cp lt (k (lt i j))
theorem Qi (lt:Nat->Nat->Bool) {α β:Type} (f:α->KasT β):∀t:KasT α,Cp lt (t.bind f)=Cp lt (f (Cp lt t))
 | .ret _=>rfl
 | .ask i j k=>Qi lt f (k (lt i j))
structure WO (lt:Nat->Nat->Bool):Prop where
 asy:∀i j,lt i j=true->lt j i=false
 neg:∀i j k,lt i k=true->lt i j=true∨lt j k=true
variable {lt:Nat->Nat->Bool}
theorem WO.refl (o:WO lt) (i:Nat):lt i i=false:=by
 cases h:lt i i
 ·rfl
 ·have:=o.asy i i h;rw [h] at this;exact this
theorem WO.tr (o:WO lt) {i j k:Nat} (h1:lt j i=false) (h2:lt k j=false):lt k i=false:=by
 cases h:lt k i
 ·rfl
 ·rcases o.neg k j i h with z | z
  ·rw [z] at h2;cases h2
  ·rw [z] at h1;cases h1
noncomputable abbrev pt (p:Array Nat) (j:Nat):Nat:=p.getD j 0
theorem Og (p:Array Nat) (j:Nat):pt p j=(p[j]?).getD 0:=by simp [pt]
noncomputable def Srt (lt:Nat->Nat->Bool) (p:Array Nat) (k:Nat):Prop:=∀i j,i<=j->j < k->lt (pt p j) (pt p i)=false
noncomputable def NIn (lt:Nat->Nat->Bool) (p:Array Nat) (k:Nat):Prop:=∀i j,i<=j->j < k->lt (pt p i) (pt p j)=false
theorem Jh {p:Array Nat} {i j:Nat} (hj:j<=p.size) (k:Nat):pt (kas_rev p i j) k=if i<=k/\k < j then pt p (i + j - 1 - k) else pt p k:=by
 rw [Og,kas_rev,getElem?_mirror_all hj]
 split <;> exact (Og ..).symm
theorem ZPh {p:Array Nat} {src d:Nat} (hs:src < p.size) (hd:d<=src) (k:Nat):pt (bubble p src d) k=if k=src - d then pt p src else if src - d < k/\k<=src then pt p (k - 1) else pt p k:=by
 rw [Og,getElem?_bubble hs d hd];by_cases h1:k=src - d
 ·rw [if_pos h1,if_pos h1];exact (Og ..).symm
 ·rw [if_neg h1,if_neg h1];by_cases h2:src - d < k/\k<=src
  ·rw [if_pos h2,if_pos h2];exact (Og ..).symm
  ·rw [if_neg h2,if_neg h2];exact (Og ..).symm
theorem ZCm (o:WO lt) (p:Array Nat):∀f n,1<=n->Srt lt p n->∀m,Cp lt (kas_asc p f n)=m->n<=m/\m<=n + f/\Srt lt p m/\(m < n + f->lt (pt p m) (pt p (m - 1))=true)
 | 0,n,h1,h,m,e=>by have e':n=m:=e;subst e';exact ⟨Nat.le_refl _,Nat.le_refl _,h,λz=>absurd z (Nat.lt_irrefl _)⟩
 | f + 1,n,h1,h,m,e=>by
  unfold kas_asc at e;have e1:Cp lt (if lt (pt p n) (pt p (n - 1))=true then KasT.ret n else kas_asc p f (n + 1))=m:=e;cases hc:lt (pt p n) (pt p (n - 1)) with
  | true=>
   rw [hc,if_pos rfl] at e1;have e':n=m:=e1;subst e';exact ⟨Nat.le_refl _,by lia,h,λ_=>hc⟩
  | false=>
   rw [hc,if_neg (by simp)] at e1;have h':Srt lt p (n + 1):=λi j hij hj=>by
    by_cases e:j < n
    ·exact h i j hij e
    ·have e':j=n:=by lia
     subst e';by_cases e2:i=j
     ·rw [e2];exact o.refl _
     ·exact o.tr (h i (j - 1) (by lia) (by lia)) hc
   obtain ⟨a,b,c,d⟩:=ZCm o p f (n + 1) (by lia) h' m e1;exact ⟨by lia,by lia,c,λz=>d (by lia)⟩
structure Dn (lt:Nat->Nat->Bool) (p:Array Nat) (n q:Nat):Prop where
 ni:NIn lt p n
 al:∀i j,n - (q + 1)<=i->i < n->n - (q + 1)<=j->j < n->lt (pt p i) (pt p j)=false
 qn:q + 1<=n
theorem NIn.rev {p:Array Nat} {n q:Nat} (d:Dn lt p n q) (hn:n<=p.size):NIn lt (kas_rev p (n - (q + 1)) n) n:=λi j hij hj=>by
 have:=d.qn;rw [Jh hn,Jh hn];by_cases h1:n - (q + 1)<=i
 ·rw [if_pos ⟨h1,by lia⟩,if_pos ⟨by lia,hj⟩];exact d.al _ _ (by lia) (by lia) (by lia) (by lia)
 ·rw [if_neg (by lia)];by_cases h2:n - (q + 1)<=j
  ·rw [if_pos ⟨h2,hj⟩];exact d.ni _ _ (by lia) (by lia)
  ·rw [if_neg (by lia)];exact d.ni i j hij hj
theorem We (o:WO lt):∀f (p:Array Nat) n q,n + f<=p.size->Dn lt p n q->∀r,Cp lt (kas_desc f p n q)=r->r.1.Perm p/\r.2.1<=n + f/\n<=r.2.1/\Dn lt r.1 r.2.1 r.2.2
 | 0,p,n,q,hz,d,r,e=>by have e':(p,n,q)=r:=e;subst e';exact ⟨.refl _,Nat.le_refl _,Nat.le_refl _,d⟩
 | f + 1,p,n,q,hz,d,r,e=>by
  have qn:=d.qn;unfold kas_desc at e;have e1:Cp lt (if lt (pt p n) (pt p (n - 1))=true then (if q > 0 then kas_desc f (kas_rev p (n - (q + 1)) n) (n + 1) 0 else kas_desc f p (n + 1) 0)
   else .ask (p.getD (n - 1) 0) (p.getD n 0) λd=>if d=true then .ret (p,n,q) else kas_desc f p (n + 1) (q + 1))=r:=e
  clear e;cases hc:lt (pt p n) (pt p (n - 1)) with
  | true=>
   rw [hc,if_pos rfl] at e1;have ext:∀p':Array Nat,NIn lt p' n->pt p' n=pt p n->(∀k,k < n->lt (pt p n) (pt p' k)=true∨k < n)->lt (pt p' (n - 1)) (pt p' n)=false->Dn lt p' (n + 1) 0:=λp' hni _ _ hl=>by
    refine ⟨λi j hij hj=> ?_,λi j h1 h2 h3 h4=> ?_,by lia⟩
    ·by_cases e:j < n
     ·exact hni i j hij e
     ·have e':j=n:=by lia
      subst e';by_cases e2:i=j
      ·rw [e2];exact o.refl _
      ·exact o.tr hl (hni i (j - 1) (by lia) (by lia))
    ·have e1:i=n:=by lia
     have e2:j=n:=by lia
     rw [e1,e2];exact o.refl _
   by_cases hq:q > 0
   ·rw [if_pos hq] at e1;have hl:lt (pt (kas_rev p (n - (q + 1)) n) (n - 1)) (pt (kas_rev p (n - (q + 1)) n) n)=false:=by
     rw [Jh (by lia),Jh (by lia),if_pos (by lia),if_neg (by lia)];cases hx:lt (pt p (n - (q + 1) + n - 1 - (n - 1))) (pt p n)
     ·rfl
     ·rcases o.neg _ (pt p (n - 1)) _ hx with z | z
      ·rw [d.al _ _ (by lia) (by lia) (by lia) (by lia)] at z;cases z
      ·rw [o.asy _ _ hc] at z;cases z
    obtain ⟨a,b,c,dd⟩:=We o f _ (n + 1) 0 (by rw [kas_rev,mirror_size];lia) (ext _ (NIn.rev d (by lia)) (by rw [Jh (by lia),if_neg (by lia)]) (λk hk=>.inr hk) hl) r e1;exact ⟨a.trans (mirror_perm ..),by lia,by lia,dd⟩
   ·rw [if_neg hq] at e1;obtain ⟨a,b,c,dd⟩:=We o f p (n + 1) 0 (by lia) (ext p d.ni rfl (λk hk=>.inr hk) (o.asy _ _ hc)) r e1;exact ⟨a,by lia,by lia,dd⟩
  | false=>
   rw [hc,if_neg (by simp)] at e1;have e2:Cp lt (if lt (pt p (n - 1)) (pt p n)=true then .ret (p,n,q) else kas_desc f p (n + 1) (q + 1))=r:=e1;cases hd:lt (pt p (n - 1)) (pt p n) with
   | true=>
    rw [hd,if_pos rfl] at e2;have e3:(p,n,q)=r:=e2;subst e3;exact ⟨.refl _,by show n<=_;lia,Nat.le_refl _,d⟩
   | false=>
    rw [hd,if_neg (by simp)] at e2;have al':∀i,n - (q + 1)<=i->i < n + 1->lt (pt p i) (pt p n)=false/\lt (pt p n) (pt p i)=false:=λi h1 h2=>by
     by_cases e:i=n
     ·rw [e];exact ⟨o.refl _,o.refl _⟩
     ·exact ⟨o.tr hd (d.al i (n - 1) h1 (by lia) (by lia) (by lia)),o.tr (d.al (n - 1) i (by lia) (by lia) h1 (by lia)) hc⟩
    obtain ⟨a,b,c,dd⟩:=We o f p (n + 1) (q + 1) (by lia) ⟨λi j hij hj=>by
     by_cases e:j < n
     ·exact d.ni i j hij e
     ·have e':j=n:=by lia
      subst e';by_cases e2:i=j
      ·rw [e2];exact o.refl _
      ·exact o.tr hd (d.ni i (j - 1) (by lia) (by lia)),λi j h1 h2 h3 h4=>by
     by_cases ei:i=n
     ·rw [ei];exact (al' j (by lia) h4).2
     ·by_cases ej:j=n
      ·rw [ej];exact (al' i (by lia) h2).1
      ·exact d.al i j (by lia) (by lia) (by lia) (by lia),by lia⟩ r e2
    exact ⟨a,by lia,by lia,dd⟩
theorem ZEu (o:WO lt) {p:Array Nat} {n:Nat} (h1:1<=n) (hn:n<=nrem) (hz:nrem<=p.size) (d:NIn lt p n):∀r,Cp lt (kas_tail3 n nrem p)=r->r.2.Perm p/\r.1<=nrem/\1<=r.1/\Srt lt r.2 r.1:=by
 intro r e;unfold kas_tail3 at e;rw [Qi] at e;have s0:Srt lt (kas_rev p 0 n) n:=λi j hij hj=>by rw [Jh (by lia),Jh (by lia),if_pos (by lia),if_pos (by lia)];exact d _ _ (by lia) (by lia)
 obtain ⟨a,b,c,_⟩:=ZCm o (kas_rev p 0 n) (nrem - n) n h1 s0 _ rfl;have e':(Cp lt (kas_asc (kas_rev p 0 n) (nrem - n) n),kas_rev p 0 n)=r:=e;subst e';exact ⟨mirror_perm ..,by show Cp lt (kas_asc (kas_rev p 0 n) (nrem - n) n)<=nrem;lia,by show 1<=Cp lt (kas_asc (kas_rev p 0 n) (nrem - n) n);lia,c⟩
theorem ZGc (o:WO lt) {p:Array Nat} {n:Nat} (h1:1<=n) (hn:n < nrem) (hz:nrem<=p.size) (al:∀i j,i < n->j < n->lt (pt p i) (pt p j)=false) (hl:lt (pt p n) (pt p (n - 1))=true):
  ∀r,Cp lt (kas_descPart n nrem p)=r->r.2.Perm p/\r.1<=nrem/\1<=r.1/\Srt lt r.2 r.1:=by
 intro r e;unfold kas_descPart at e;rw [Qi] at e;have d0:Dn lt p (n + 1) 0:=⟨λi j hij hj=>by
  by_cases e:j < n
  ·exact al i j (by lia) e
  ·have e':j=n:=by lia
   subst e';by_cases e2:i=j
   ·rw [e2];exact o.refl _
   ·exact o.tr (o.asy _ _ hl) (al i (j - 1) (by lia) (by lia)),λi j _ _ _ _=>by
  have e1:i=n:=by lia
  have e2:j=n:=by lia
  rw [e1,e2];exact o.refl _,by lia⟩
 obtain ⟨a,b,c,dd⟩:=We o (nrem - (n + 1)) p (n + 1) 0 (by lia) d0 _ rfl
 revert a b c dd e
 generalize Cp lt (kas_desc (nrem - (n + 1)) p (n + 1) 0)=x;intro e a b c dd;have hx:x.1.size=p.size:=a.size_eq;split at e
 ·obtain ⟨a',b',c',d'⟩:=ZEu o (by lia) (by lia) (by rw [kas_rev,mirror_size];lia) (NIn.rev dd (by lia)) r e;exact ⟨(a'.trans (mirror_perm ..)).trans a,b',c',d'⟩
 ·obtain ⟨a',b',c',d'⟩:=ZEu o (by lia) (by lia) (by lia) dd.ni r e;exact ⟨a'.trans a,b',c',d'⟩
theorem ZKE (o:WO lt) {p:Array Nat} (h1:1<=nrem) (hz:nrem<=p.size):∀r,Cp lt (kas_count nrem p)=r->r.2.Perm p/\r.1<=nrem/\1<=r.1/\Srt lt r.2 r.1:=by
 intro r e;unfold kas_count at e;rw [Qi] at e;obtain ⟨a,b,c,d⟩:=ZCm o p (nrem - 1) 1 (Nat.le_refl _) (λi j hij hj=>by
  have e1:i=0:=by lia
  have e2:j=0:=by lia
  rw [e1,e2];exact o.refl _) _ rfl
 revert a b c d e
 generalize Cp lt (kas_asc p (nrem - 1) 1)=n;intro e a b c d;split at e
 ·have e':(n,p)=r:=e;subst e';exact ⟨.refl _,by show n<=nrem;lia,a,c⟩
 ·rename_i hne;have hn:n < nrem:=by
   have:n≠nrem:=by simpa using hne
   lia
  have hl:=d (by lia);split at e
  ·rename_i hgt;have e':Cp lt (if lt (pt p 0) (pt p (n - 1))=true then .ret (n,p) else kas_descPart n nrem (kas_rev p 0 n))=r:=e;cases hc:lt (pt p 0) (pt p (n - 1)) with
   | true=>
    rw [hc,if_pos rfl] at e';have e2:(n,p)=r:=e';subst e2;exact ⟨.refl _,by show n<=nrem;lia,a,c⟩
   | false=>
    rw [hc,if_neg (by simp)] at e';have al:∀i j,i < n->j < n->lt (pt p i) (pt p j)=false:=λi j hi hj=>o.tr (c j (n - 1) (by lia) (by lia) |> λz=>z) (o.tr hc (c 0 i (by lia) hi) |> λz=>by exact z)
    obtain ⟨a',b',c',d'⟩:=ZGc o (p:=kas_rev p 0 n) a hn (by rw [kas_rev,mirror_size];lia) (λi j hi hj=>by
     rw [Jh (by lia),Jh (by lia),if_pos (by lia),if_pos (by lia)];exact al _ _ (by lia) (by lia)) (by
     rw [Jh (by lia),Jh (by lia),if_neg (by lia),if_pos (by lia)];rcases o.neg _ (pt p (0 + n - 1 - (n - 1))) _ hl with z | z
     ·exact z
     ·rw [al _ _ (by lia) (by lia)] at z;cases z) r e'
    exact ⟨a'.trans (mirror_perm ..),b',c',d'⟩
  ·have e1:n=1:=by lia
   subst e1;exact ZGc o (Nat.le_refl _) hn hz (λi j hi hj=>by
    have e1:i=0:=by lia
    have e2:j=0:=by lia
    rw [e1,e2];exact o.refl _) hl r e
theorem ZBZ (o:WO lt) (p:Array Nat) (k:Nat) (hs:Srt lt p k):∀f l r,r - l<=f->l<=r->r<=k->(∀i,i < l->lt (pt p k) (pt p i)=false)->(∀i,r<=i->i < k->lt (pt p k) (pt p i)=true)->
  ∀m,Cp lt (kas_place p k f l r)=m->m<=k/\(∀i,i < m->lt (pt p k) (pt p i)=false)/\(∀i,m<=i->i < k->lt (pt p k) (pt p i)=true)
 | 0,l,r,hf,hlr,hr,h1,h2,m,e=>by have e':l=m:=e;subst e';exact ⟨by lia,h1,λi hi hk=>h2 i (by lia) hk⟩
 | f + 1,l,r,hf,hlr,hr,h1,h2,m,e=>by
  unfold kas_place at e;split at e
  ·have e':l=m:=e;subst e';exact ⟨by lia,h1,λi hi hk=>h2 i (by lia) hk⟩
  ·rename_i hlt;have e':Cp lt (if lt (pt p k) (pt p ((l + r) / 2))=true then kas_place p k f l ((l + r) / 2) else kas_place p k f ((l + r) / 2 + 1) r)=m:=e;cases hc:lt (pt p k) (pt p ((l + r) / 2)) with
   | true=>
    rw [hc,if_pos rfl] at e';refine ZBZ o p k hs f l ((l + r) / 2) (by lia) (by lia) (by lia) h1 (λi hi hk=> ?_) m e';rcases o.neg _ (pt p i) _ hc with z | z
    ·exact z
    ·rw [hs _ i hi hk] at z;cases z
   | false=>
    rw [hc,if_neg (by simp)] at e';exact ZBZ o p k hs f ((l + r) / 2 + 1) r (by lia) (by lia) hr (λi hi=>o.tr (hs i ((l + r) / 2) (by lia) (by lia)) hc) h2 m e'
theorem ZHJ (o:WO lt):∀f (p:Array Nat) k,k + f=p.size->Srt lt p k->(Cp lt (kas_bin f p k)).Perm p/\Srt lt (Cp lt (kas_bin f p k)) p.size
 | 0,p,k,hz,hs=>⟨.refl _,by
  have:k=p.size:=by lia
  rw [<-this];exact hs⟩
 | f + 1,p,k,hz,hs=>by
  unfold kas_bin;rw [Qi];obtain ⟨hm,h1,h2⟩:=ZBZ o p k hs k 0 k (by lia) (by lia) (Nat.le_refl _) (λi hi=>by lia) (λi hi hk=>by lia) _ rfl
  revert hm h1 h2
  generalize Cp lt (kas_place p k k 0 k)=m;intro hm h1 h2;have sz:(bubble p k (k - m)).size=p.size:=bubble_size ..;have hk:k < p.size:=by lia
  have e:∀j,pt (bubble p k (k - m)) j=if j=m then pt p k else if m < j/\j<=k then pt p (j - 1) else pt p j:=λj=>by
   rw [ZPh hk (by lia)];have:k - (k - m)=m:=by lia
   rw [this]
  obtain ⟨a,b⟩:=ZHJ o f (bubble p k (k - m)) (k + 1) (by lia) (λi j hij hj=>by
   rw [e i,e j];by_cases ji:j=m
   ·rw [if_pos ji];by_cases ii:i=m
    ·rw [if_pos ii];exact o.refl _
    ·rw [if_neg ii,if_neg (by lia)];exact h1 i (by lia)
   ·rw [if_neg ji];by_cases jm:m < j
    ·rw [if_pos ⟨jm,by lia⟩];by_cases ii:i=m
     ·rw [if_pos ii];exact o.asy _ _ (h2 _ (by lia) (by lia))
     ·rw [if_neg ii];by_cases im:m < i
      ·rw [if_pos ⟨im,by lia⟩];exact hs _ _ (by lia) (by lia)
      ·rw [if_neg (by lia)];exact hs _ _ (by lia) (by lia)
    ·rw [if_neg (by lia),if_neg (by lia),if_neg (by lia)];exact hs i j hij (by lia))
  rw [sz] at b;exact ⟨a.trans (bubble_perm ..),b⟩
theorem ZDF (o:WO lt) {n:Nat} (hn:1<=n):(Cp lt (kas_sort n)).toList.Perm (List.range n)/\Srt lt (Cp lt (kas_sort n)) n:=by
 unfold kas_sort;rw [Qi];obtain ⟨a,b,c,d⟩:=ZKE o (p:=(List.range n).toArray) (nrem:=n) hn (by simp) _ rfl
 revert a b c d
 generalize Cp lt (kas_count n (List.range n).toArray)=x;intro a b c d;have hx:x.2.size=n:=by rw [a.size_eq];simp
 split
 ·have e:max x.1 1=x.1:=by lia
  rw [e];obtain ⟨a',b'⟩:=ZHJ o (n - x.1) x.2 x.1 (by lia) d;rw [hx] at b';exact ⟨by simpa using (a'.trans a).toList,b'⟩
 ·have e:x.1=n:=by lia
  rw [e] at d;exact ⟨by simpa [Cp] using a.toList,d⟩
end
end DL
namespace DL
open PySem PySem.Spec L2
open PyProof.Rows hiding St
variable {pins:List (Addr×Obj)} {σ:St} {H:Hp} {s:Shared} {w:World} {K:PySem.W.Frag} {elts:List Expr} {i:Nat} {a:Wd} {ta:DA}
section
variable {X:Cx} {pins:List (Addr×Obj)} {σ:St} {H:Hp} {s:Shared} {h':Heap}
theorem ZCY {t':Nat} {fp:List Addr} (I:Inv X pins σ H s) (k:∀b o,b ∉ fp->s.heap.get? b=some o->h'.get? b=some o) (hf:∀b∈fp,FpOk X pins H b):Inv X pins σ H {s with heap:=h',toks:=t'}:=by
 have nit:∀b u,H b=some u->b ∉ fp:=λb u e z=>by rw [(hf b z).1] at e;cases e
 refine I.step (g':=s.gens) (d':=s.drawn) (ch:=fp) (λb hb=> ?_) (λb o _ _ hc e _=>k b o hc e) (λb o _ _ hc e _=>⟨o.slots,k b o hc e⟩) (λ_ _ _ _ n=>n)
  (λb o hc e=>⟨o,k b o hc e⟩) (λ_ _ e=>e) (λ_ _ _ e=>e) (λb ps e=>⟨#[],by rw [e];simp⟩) (λm hm=> ?_) (λb u e=> ?_) I.bare
 ·obtain ⟨f0,f1,f2,f3,f4,f5⟩:=hf b hb;exact ⟨f3,f1,f4,f5⟩
 ·obtain ⟨o,es,ep,ho,r⟩:=hm;exact ⟨o,es,ep,k _ o (λz=>(hf _ z).2.1 rfl) ho,r⟩
 ·refine (I.hok b u e).stay (λc v hc q=>k c v ?_ q) (λ_ q=>q) λ_ _ q=>q
  rcases hc with z | z
  ·rw [z];exact nit b u e
  ·exact nit c _ z
theorem ZGX {t':Nat} {fp:List Addr} {p:Addr} {xs:List V} {its:List Value} (I:Inv X pins σ H s) (k:∀b o,b ∉ fp->s.heap.get? b=some o->h'.get? b=some o) (hf:∀b∈fp,FpOk X pins H b) (hp:s.heap.objs.size<=p)
  (hz:xs.length<=sizeLine) (r:Vals xs its) (ht:Tp h' p its):Inv X pins σ (upd H p (.tup xs)) {s with heap:=h',toks:=t'}:=by
 obtain ⟨g0,g1,g2,g3,g4,g5⟩:=I.K1 (H':=H) hp (I.hok.fresh hp);exact ZA2 (ZCY I k hf) g0 (Nat.le_trans I.sz hp) g1 g4 g5 ⟨hz,its,r,_,ht,rfl,_,rfl⟩
end
noncomputable def Src.sq (K:PySem.W.Frag) (H:Hp) (xs:List V):Src->Prop
 | .l a=>SqL K H a xs
 | .t a=>SqT K H a xs
variable {sr:Src} {ls:List Src}
theorem Src.sq.val {X:Cx} {xs:List V} (I:Inv X pins σ H s) (h:sr.sq X.K H xs):∃its:List Value,Vals xs its/\sr.val s.heap its.toArray/\xs.length<=sizeLine:=by
 cases sr with
 | l a=>obtain ⟨its,r,p,hz⟩:=I.list h;exact ⟨its,r,p.isList,hz⟩
 | t a=>obtain ⟨its,r,p,hz⟩:=I.tuple h;exact ⟨its,r,p,hz⟩
theorem Src.sq.inj {X:Cx} {xs ys:List V} (I:Inv X pins σ H s) (h:sr.sq X.K H xs) (h':sr.sq X.K H ys):xs=ys:=by
 cases sr with
 | l a=>exact I.ZCg h h'
 | t a=>exact I.Yj h h'
noncomputable def Ite (K:PySem.W.Frag) (sr:Src) (n:Int):It:=
 ⟨λi H=>∃xs x,sr.sq K H xs/\xs[i]? =some x,λi H v H'=>∃p x,v=.ref p/\H p=none/\H'=upd H p (.tup [.int (n + i),x])/\∀xs,sr.sq K H xs->xs[i]? =some x,λi H=>∃xs,sr.sq K H xs/\xs.length<=i⟩
theorem ZGA {P:Program} {x1} {pos:Pos} (sr:Src) (n:Int) (e it:Addr) (hne:e≠it):
  Turn P w K (.Tuple elts x1 pos) (Ite K sr n) [e,it] e (λi h=>∃g old,En h e it .none (n + i) g old/\Gv (n + i) g/\sr.it h it i) where
 mem:=by simp
 obj:=λi h st b hb=>by
  obtain ⟨g,old,he,_,o,ho,_,hd⟩:=st;rcases (show b=e∨b=it by simpa using hb) with rfl | rfl
  ·exact ⟨_,he,λv z=>by cases z⟩
  ·exact ⟨o,ho,λv z=>by rw [hd] at z;cases z⟩
 keep:=λi h h' st k=>by obtain ⟨g,old,he,hg,hi⟩:=st;exact ⟨g,old,k e (by simp) _ he,hg,hi.at λo q=>k it (by simp) o q⟩
 item:=by
  intro X hP hw hK hc i pins s σ H E I hf st hg;subst hP hw hK;obtain ⟨xs,x,hq,hx⟩:=hg;obtain ⟨its,rv,hv,hz⟩:=Src.sq.val I hq;obtain ⟨u,hu,ru⟩:=rv.get hx;obtain ⟨g,old,he,hgv,hi⟩:=st;refine ZLD he hgv hi hv (x:=u) (by simpa using hu) hne λh1 t tk e1 i1 t1 z1 k1=>⟨_,rfl,?_⟩
  refine ZPX (s:={s with heap:=h1,toks:=tk}) e1 λh2 e2 sb=> ?_
  have hpe:s.heap.objs.size≠e:=Nat.ne_of_gt (Heap.lt_size he);have I2:Inv X pins σ (upd H s.heap.objs.size (.tup [.int (n + i),x])) {s with heap:=h2,toks:=tk}:=
   ZGX (fp:= [e,it]) (its:= [.int (n + i) t,u]) I (λb o hb q=>by
    have hb':b≠e/\b≠it:=by simpa using hb
    exact sb.extBut b o hb'.1 (k1 b o hb'.1 hb'.2 q)) hf (Nat.le_refl _) (by show 2<=sizeLine;decide) (.cons ⟨t,rfl⟩ (.cons ru .nil)) (sb.extBut _ _ hpe t1)
  have hfr:H s.heap.objs.size=none:=I.hok.fresh (Nat.le_refl _);refine ⟨.ref s.heap.objs.size,_,I2,rfl,⟨_,x,rfl,hfr,rfl,λys hy=>by rw [Src.sq.inj I hy hq];exact hx⟩,⟨.none,u,?_,.inl rfl,i1.at λo q=>sb.extBut _ _ (Ne.symm hne) q⟩,λb hb=> ?_⟩
  ·have ee:n + (i:Int) + 1=n + ((i + 1:Nat):Int):=by lia
   rw [<-ee];exact e2
  ·have hb':b=e∨b=it:=by simpa using hb
   rw [Bc (λz=> ?_)]
   ·exact (hf b hb).1
   ·rcases hb' with rfl | rfl
    ·exact hpe z.symm
    ·have hlt:=Src.it.lt hi;rw [z] at hlt;exact Nat.lt_irrefl _ hlt
 done:=by
  intro X hP hw hK hc i pins s σ H E I hf st hg;subst hP hw hK;obtain ⟨xs,hq,hx⟩:=hg;obtain ⟨its,rv,hv,hz⟩:=Src.sq.val I hq;obtain ⟨g,old,he,hgv,hi⟩:=st;have hl:=rv.length;refine ZKW (I.ok.hd hc) he hi hv (by simp;lia) λh1 xb=>⟨rfl,?_⟩
  exact ZCY (t':=s.toks) (fp:= [e,it]) I (λb o hb q=>xb b o (λz=>hb (by simp [z])) q) hf
 self:=λ_ _ _ _ _ st h=>by obtain ⟨g,old,he,_⟩:=st;exact ZB1 he h
section
variable {X:Cx} {E:XK}
theorem ZOJ {prog:Program} {A:Around} {E:Value->Shared->Prop} {xs:Array Value} {Q:Value->Shared->Prop} (hv:sr.val s.heap xs)
  (h:∀h',En h' (s.heap.objs.size + 1) s.heap.objs.size .none 0 .none .none->sr.it h' s.heap.objs.size 0->(∀b o,s.heap.get? b=some o->h'.get? b=some o)->Q (.ref (s.heap.objs.size + 1)) {s with heap:=h'}):
  wpAny (model prog w) A (call (.type "enumerate") [.ref sr.adr]) Q E s:=by
 have g:Meets (Builtin.«enumerate.__new__» ⟨[.type "enumerate",.ref sr.adr],[]⟩) (λ_ R s=>sr.val s.heap xs/\
   R (.ok (.ret (.ref (s.heap.push {cls:=.type sr.itn,data:=.fields #[.ref sr.adr,.int 0 0]}).objs.size)))
    {s with heap:=(s.heap.push {cls:=.type sr.itn,data:=.fields #[.ref sr.adr,.int 0 0]}).push {cls:=.type "enumerate",data:=.fields #[.none,.bool false,.ref s.heap.objs.size,rawInt 0,.none,.none]}}):=
  .of_wp λprog w A R s h=>by
   obtain ⟨hp,g,d,tk,os⟩:=s;obtain ⟨hl,h⟩:=h;have hsub:=sub_enumerate;have hL:sr.val (Shared.heap ⟨hp,g,d,tk,os⟩) xs:=hl
   wp_walk
   refine wpAny_stack_any λst=>wpAny_pure ?_
   split
   ·rename_i c _ _ _ _ _
    cases (c == Value.type "enumerate") <;> (wp_walk using Src.iter hL;exact ⟨_,rfl,h⟩)
   ·wp_walk using Src.iter hL
    exact ⟨_,rfl,h⟩
 refine callType_new PySem.F.called_enumerate (by decide) (PySem.F.typeCall_enumerate_1 _) (PySem.F.newCall_enumerate_1 _) (λobj=>PySem.F.args_object_init_2 obj _) PySem.F.entry_enumerate_new g ⟨hv,?_⟩;have hz:(s.heap.push {cls:=.type sr.itn,data:=.fields #[.ref sr.adr,.int 0 0]}).objs.size=s.heap.objs.size + 1:=Heap.size_push ..;show _/\_;rw [hz];have he:En ((s.heap.push {cls:=.type sr.itn,data:=.fields #[.ref sr.adr,.int 0 0]}).push {cls:=.type "enumerate",data:=.fields #[.none,.bool false,.ref s.heap.objs.size,rawInt 0,.none,.none]}) (s.heap.objs.size + 1) s.heap.objs.size .none 0 .none .none:=by
  have:=Heap.get?_push_size (s.heap.push {cls:=.type sr.itn,data:=.fields #[.ref sr.adr,.int 0 0]}) (o:={cls:=.type "enumerate",data:=.fields #[.none,.bool false,.ref s.heap.objs.size,rawInt 0,.none,.none]}) rfl;rw [hz] at this;exact this
 exact ⟨⟨_,he,rfl⟩,h _ he ⟨_,Heap.get?_push_of_some _ (Heap.get?_push_size _ rfl),rfl,rfl⟩ λb o x=>Heap.get?_push_of_some _ (Heap.get?_push_of_some _ x)⟩
noncomputable def ZIM (K:PySem.W.Frag) (ta:TA):TI:=λσ H R=>ta σ H λvs H1=>∃sr xs,vs= [.ref (Src.adr sr)]/\sr.sq K H1 xs/\R (Ite K sr 0) H1
theorem ZNO {elts:List Expr} {x1} {tp:Pos} {a:Expr} {ta:TA} {p pos:Pos} (hg:Gl X "enumerate") (hm:X.mg "enumerate"=none) (ha:PA X [a] ta) (hs:starEach [a] X.env= [(false,eval a X.env)]:=by rfl):PI X (.Tuple elts x1 tp) (.Call (.Name "enumerate" p) [a] [] pos) (ZIM X.K ta):=by
 intro pins s σ H R I h;refine Call_ (Jk I hg hm PyProof.Rows.boot_enumerate (PyProof.Rows.callWith_type1 (thn (ha pos pins s σ H _ I h) λus s1 ⟨vs,H1,I1,r1,q1⟩=> ?_) hs rfl));obtain ⟨sr,xs,e,hq,q⟩:=q1;subst e;cases r1 with
 | cons r rr=>
  cases rr;cases r;obtain ⟨its,rv,hv,hz⟩:=Src.sq.val I1 hq;refine ZOJ hv λh' he hi kp=> ?_
  refine ZB1 he ?_;have I2:Inv X pins σ H1 {s1 with heap:=h'}:=I1.kept (t':=s1.toks) kp;refine ⟨s1.heap.objs.size + 1,[s1.heap.objs.size + 1,s1.heap.objs.size],_,_,H1,rfl,I2,ZGA sr 0 _ _ (Nat.succ_ne_self _),⟨.none,.none,by simpa using he,.inl rfl,hi⟩,λb hb=> ?_,q⟩;have hb':b=s1.heap.objs.size + 1∨b=s1.heap.objs.size:=by simpa using hb
  have hle:s1.heap.objs.size<=b:=by rcases hb' with rfl | rfl <;> lia
  exact I1.K1 hle (I1.hok.fresh hle)
end
inductive DrV (K:PySem.W.Frag) (H:Hp) (i:Nat):List Src->List V->Prop where
 | nil:DrV K H i [] []
 | cons {sr r v us xs} (hq:Src.sq K H xs sr) (hx:xs[i]? =some v) (t:DrV K H i r us):DrV K H i (sr::r) (v::us)
inductive StV (K:PySem.W.Frag) (H:Hp) (i:Nat):List Src->Prop where
 | here {sr r xs} (hq:Src.sq K H xs sr) (hx:xs.length<=i):StV K H i (sr::r)
 | there {sr r v xs} (hq:Src.sq K H xs sr) (hx:xs[i]? =some v) (t:StV K H i r):StV K H i (sr::r)
noncomputable def Itz (K:PySem.W.Frag) (ls:List Src):It:=
 ⟨λi H=>∃us,DrV K H i ls us,λi H v H'=>∃p us,v=.ref p/\H p=none/\H'=upd H p (.tup us)/\∀us',DrV K H i ls us'->us'=us,λi H=>StV K H i ls⟩
theorem DrV.length {us:List V} (d:DrV K H i ls us):us.length=ls.length:=by
 induction d with
 | nil=>rfl
 | cons _ _ _ ih=>simp [ih]
section
variable {X:Cx} {pins:List (Addr×Obj)} {σ:St} {H:Hp} {s:Shared}
theorem DrV.inj (I:Inv X pins σ H s) :∀{ls:List Src} {us us':List V},DrV X.K H i ls us->DrV X.K H i ls us'->us=us'
 | [],_,_,d,d'=>by cases d;cases d';rfl
 | sr::ls,_,_,d,d'=>by
  cases d with
  | cons hq hx t=>
   cases d' with
   | cons hq' hx' t'=>
    have e:=Src.sq.inj I hq hq';subst e;rw [hx] at hx';cases hx';rw [DrV.inj I t t']
theorem DrV.drw (I:Inv X pins σ H s) :∀{l:List (Src×Addr)} {us:List V},DrV X.K H i (l.map (·.1)) us->(∀q∈l,q.1.it s.heap q.2 i)->∃ws,Drw s.heap i l ws/\Vals us ws
 | [],us,d,h=>by cases d;exact ⟨[],.nil,.nil⟩
 | (sr,p)::l,us,d,h=>by
  cases d with
  | cons hq hx t=>
   obtain ⟨its,rv,hv,hz⟩:=Src.sq.val I hq;obtain ⟨u,hu,ru⟩:=rv.get hx;obtain ⟨ws,d',r'⟩:=DrV.drw I t λq hq=>h q (List.mem_cons_of_mem _ hq)
   exact ⟨u::ws,.cons (h (sr,p) List.mem_cons_self) hv (by simpa using hu) d',.cons ru r'⟩
theorem StV.drw (I:Inv X pins σ H s) :∀{l:List (Src×Addr)},StV X.K H i (l.map (·.1))->(∀q∈l,q.1.it s.heap q.2 i)->DrwE s.heap i l
 | [],d,h=>by cases d
 | (sr,p)::l,d,h=>by
  cases d with
  | here hq hx=>
   obtain ⟨its,rv,hv,hz⟩:=Src.sq.val I hq;have hl:=rv.length;exact .here (h (sr,p) List.mem_cons_self) hv (by simp;lia)
  | there hq hx t=>
   obtain ⟨its,rv,hv,hz⟩:=Src.sq.val I hq;obtain ⟨u,hu,ru⟩:=rv.get hx;exact .there (h (sr,p) List.mem_cons_self) hv (by simpa using hu) (StV.drw I t λq hq=>h q (List.mem_cons_of_mem _ hq))
end
theorem ZIR {P:Program} {x1} {pos:Pos} (l:List (Src×Addr)) (z TI TO:Addr) (a:ApZ TO l) (zz:z≠TO/\(∀q∈l,q.2≠z/\q.1.adr≠z)) (tt:TI≠z/\TI≠TO/\∀q∈l,q.2≠TI) (hsz:l.length<=1000000) (hne:l≠ []):
  Turn P w K (.Tuple elts x1 pos) (Itz K (l.map (·.1))) (z::TI::TO::l.map (·.2)) z
   (λi h=>IsZip h z TI TO .none/\Tp h TI (l.map λq=>Value.ref q.2)/\(∃os,Tp h TO os/\os.length=l.length)/\∀q∈l,q.1.it h q.2 i) where
 mem:=by simp
 obj:=λi h st b hb=>by
  obtain ⟨hz,hTI,⟨os,hTO,_⟩,hi⟩:=st;rcases List.mem_cons.mp hb with rfl | hb
  ·exact ⟨_,hz,λv z=>by cases z⟩
  ·rcases List.mem_cons.mp hb with rfl | hb
   ·exact ⟨_,hTI,λv z=>by cases z⟩
   ·rcases List.mem_cons.mp hb with rfl | hb
    ·exact ⟨_,hTO,λv z=>by cases z⟩
    ·obtain ⟨q,hq,rfl⟩:=List.mem_map.mp hb;obtain ⟨o,ho,_,hd⟩:=hi q hq;exact ⟨o,ho,λv z=>by rw [hd] at z;cases z⟩
 keep:=λi h h' st k=>by obtain ⟨hz,hTI,⟨os,hTO,ho⟩,hi⟩:=st;exact ⟨k z (by simp) _ hz,k TI (by simp) _ hTI,⟨os,k TO (by simp) _ hTO,ho⟩,λq hq=>(hi q hq).at λo e=>k q.2 (by simp only [List.mem_cons];exact .inr (.inr (.inr (List.mem_map.mpr ⟨q,hq,rfl⟩)))) o e⟩
 item:=by
  intro X hP hw hK hc i pins s σ H E I hf st hg;subst hP hw hK;obtain ⟨us,dv⟩:=hg;obtain ⟨hz,hTI,⟨os,hTO,ho⟩,hi⟩:=st;obtain ⟨ws,dw,rv⟩:=DrV.drw I dv hi;refine ZMT hz hTI hTO ho hsz hne a zz dw λh1 z1 t1 i1 p1 s1 k1=>⟨_,rfl,?_⟩
  refine wpAny_letOwnedTupleGo_zip (s:={s with heap:=h1}) z1 λh2 z2 sb=> ?_
  have hpz:s.heap.objs.size≠z:=Nat.ne_of_gt (Heap.lt_size hz);have hul:us.length<=sizeLine:=by rw [dv.length,List.length_map];exact Nat.le_trans hsz size6
  have I2:Inv X pins σ (upd H s.heap.objs.size (.tup us)) {s with heap:=h2}:=
   ZGX (t':=s.toks) (fp:=z::TI::TO::l.map (·.2)) (its:=ws) I (λb o hb q=>by simp only [List.mem_cons,not_or] at hb;exact sb.extBut b o hb.1 (k1 b o hb.1 hb.2.2.1 hb.2.2.2 q)) hf (Nat.le_refl _) hul rv (sb.extBut _ _ hpz p1)
  have hfr:H s.heap.objs.size=none:=I.hok.fresh (Nat.le_refl _)
  have up:∀b o,b≠z->b≠TO->b ∉ l.map (·.2)->s.heap.get? b=some o->h2.get? b=some o:=λb o b1 b2 b3 q=>sb.extBut b o b1 (k1 b o b1 b2 b3 q)
  refine ⟨.ref s.heap.objs.size,_,I2,rfl,⟨_,us,rfl,hfr,rfl,λus' d'=>DrV.inj I d' dv⟩,⟨z2,up TI _ tt.1 tt.2.1 (λhm=> ?_) hTI,⟨ws,sb.extBut _ _ (Ne.symm zz.1) t1,dw.length⟩,λq hq=>(i1 q hq).at λo e=>sb.extBut _ _ (zz.2 q hq).1 e⟩,λb hb=> ?_⟩
  ·obtain ⟨q,hq,e⟩:=List.mem_map.mp hm;exact tt.2.2 q hq e
  ·rw [Bc (λe=> ?_)]
   ·exact (hf b hb).1
   ·have lt:b < s.heap.objs.size:=by
     rcases List.mem_cons.mp hb with rfl | hb
     ·exact Heap.lt_size hz
     ·rcases List.mem_cons.mp hb with rfl | hb
      ·exact Heap.lt_size hTI
      ·rcases List.mem_cons.mp hb with rfl | hb
       ·exact Heap.lt_size hTO
       ·obtain ⟨q,hq,rfl⟩:=List.mem_map.mp hb;exact (hi q hq).lt
    rw [e] at lt;exact Nat.lt_irrefl _ lt
 done:=by
  intro X hP hw hK hc i pins s σ H E I hf st hg;subst hP hw hK;obtain ⟨hz,hTI,⟨os,hTO,ho⟩,hi⟩:=st;have dw:=StV.drw I hg hi;refine ZON (I.ok.hd hc) hz hTI hTO ho hsz hne a zz dw λh1 k1=>⟨rfl,?_⟩
  exact ZCY (t':=s.toks) (fp:=z::TI::TO::l.map (·.2)) I (λb o hb q=>by simp only [List.mem_cons,not_or] at hb;exact k1 b o hb.1 hb.2.2.1 hb.2.2.2 q) hf
 self:=λ_ _ _ _ _ st h=>wpAny_pyIter_zip st.1 h
noncomputable def Ip (G:DH) (j:Nat):List D->Option (Option (List D))
 | []=>some (some [])
 | d::r=>match Cd d G with
  | none=>none
  | some xs=>match xs[j]? with
   | none=>some none
   | some x=>match Ip G j r with
    | some (some ys)=>some (some (x::ys))
    | o=>o
noncomputable def Hw (ds:List D) (j:Nat) (G:DH):Option (Option D):=(Ip G j ds).map λo=>o.map D.tup
noncomputable def lenOf (G:DH) (d:D):Nat:=match Cd d G with
 | some xs=>xs.length
 | none=>0
noncomputable def Lf (G:DH) (d:D):Bool:=(Cd d G).isSome
noncomputable def Er (n:Int) (d:D) (j:Nat) (G:DH):Option (Option D):=match Cd d G with
 | none=>none
 | some xs=>some (xs[j]?.map λx=>.tup [.int (n + j),x])
noncomputable def Iz (ds:List D) (G:DH):R ItD:=match ds with
 | [d]=>if Lf G d=true then .ok (.fn (lenOf G d) (Er 0 d)) G else .bad
 | _=>.bad
noncomputable def J7 (n:Nat) (ds:List D) (G:DH):R ItD:=if ds.all (Lf G)=true/\ds.length=n then .ok (.fn (lenOf G (ds.headD .non)) (Hw ds)) G else .bad
section
variable {X:Cx} {E:XK}
theorem Yn {G:DH} {d:D} {v:V} {xs:List D} (s:Sim a G) (r:Rep a d v) (h:Cd d G=some xs):
  ∃sr:Src,v=.ref sr.adr/\(∃vs,sr.sq a.K a.H vs)/\∀b:Wd,Ext a b->∀G',Sim b G'->∀ys,Cd d G'=some ys->∃us,sr.sq b.K b.H us/\Reps b ys us:=by
 cases d with
 | tup ds=>
  obtain ⟨p,vs,rfl,hq,rv⟩:=r;refine ⟨.t p,rfl,⟨vs,hq⟩,λb x G' s' ys hy=> ?_⟩
  cases (show some ds=some ys from hy)
  exact ⟨vs,x.sqT hq,rv.mono x⟩
 | fl ds=>
  obtain ⟨p,vs,rfl,hq,rv⟩:=r;refine ⟨.l p,rfl,⟨vs,hq.sq⟩,λb x G' s' ys hy=> ?_⟩
  cases (show some ds=some ys from hy)
  exact ⟨vs,(x.fzL hq).sq,rv.mono x⟩
 | ref i=>
  obtain ⟨hi,rfl⟩:=r;have hx:∃zs,G[i]? =some (.lst zs):=by
   unfold Cd at h;dsimp only at h;split at h
   ·rename_i zs hz;exact ⟨zs,hz⟩
   ·cases h
  obtain ⟨zs,hz⟩:=hx;obtain ⟨vs,e1,_⟩:=s.lst hz;refine ⟨.l (a.m i),rfl,⟨vs,.of e1⟩,λb x G' s' ys hy=> ?_⟩;unfold Cd at hy;dsimp only at hy;split at hy
  ·rename_i zs' hz';cases hy;obtain ⟨us,e2,r2⟩:=s'.lst hz';rw [x.m i hi] at e2;exact ⟨us,.of e2,r2⟩
  ·cases hy
 | _=>cases h
theorem ZMA {G:DH} {d:D} {v:V} (hk:a.K=X.K) (rd:∀b:Wd,Ext a b->∀G',Sim b G'->∀ys,Cd d G'=some ys->∃us,sr.sq b.K b.H us/\Reps b ys us) (n:Nat):RepI a (.fn n (Er 0 d)) (Ite X.K sr 0):=by
 intro b x G' s' i;have kb:b.K=X.K:=x.k.trans hk;constructor
 ·intro e he;unfold Er at he;split at he
  ·cases he
  ·rename_i ys hy;obtain ⟨us,hq,ru⟩:=rd b x G' s' ys hy;rw [kb] at hq;cases hyi:ys[i]? with
   | none=>rw [hyi] at he;cases he
   | some y=>
    rw [hyi] at he;have he':D.tup [.int (0 + i),y]=e:=by simpa using he
    subst he';obtain ⟨u,hu,rx⟩:=ru.get hyi;refine ⟨⟨us,u,hq,hu⟩,?_⟩;rintro w H' ⟨p,u',rfl,hp,rfl,hu'⟩;refine ⟨b.put p (.tup [.int (0 + i),u']),rfl,Ext.put hp,s'.put hp,p,_,rfl,.of Gk,?_⟩;have e1:=hu' us hq;rw [hu] at e1;cases e1;exact ⟨_,_,rfl,rfl,Reps.cons (rx.mono (Ext.put hp)) rfl⟩
 ·intro he;unfold Er at he;split at he
  ·cases he
  ·rename_i ys hy;obtain ⟨us,hq,ru⟩:=rd b x G' s' ys hy;rw [kb] at hq;cases hyi:ys[i]? with
   | none=>exact ⟨us,hq,by rw [<-ru.length];exact List.getElem?_eq_none_iff.mp hyi⟩
   | some y=>rw [hyi] at he;cases he
theorem Td {elts:List Expr} {x1} {tp:Pos} {e:Expr} {p pos:Pos} (hg:Gl X "enumerate") (hm:X.mg "enumerate"=none) (ha:QA X E [e] ta) (hs:starEach [e] X.env= [(false,eval e X.env)]:=by rfl):
  QI X E (.Tuple elts x1 tp) (.Call (.Name "enumerate" p) [e] [] pos) (Dl Iz ta):=(ZNO hg hm ha hs).mono λσ H Q h=>by
 obtain ⟨a,S,G,hk,rfl,s,r,h⟩:=h;refine ⟨a,S,G,hk,rfl,s,r,(U7 h).imp ?_⟩;rintro vs _ ⟨b,ds,G1,rfl,x,s1,q,-,h1⟩;unfold Iz at h1;split at h1
 ·rename_i d;split at h1
  ·rename_i hok;obtain ⟨v,r,e1,q1,q2⟩:=q
   cases (show r= [] from q2)
   subst e1
   obtain ⟨xs,hx⟩:=Option.isSome_iff_exists.mp (show (Cd d G1).isSome=true from hok)
   obtain ⟨sr,rfl,⟨us,hq⟩,rd⟩:=Yn s1 q1 hx;have kb:b.K=X.K:=x.k.trans hk;exact ⟨sr,us,rfl,by rw [<-kb];exact hq,h1 b _ (Ext.refl b) s1 (ZMA (G:=G1) (v:=.non) kb rd _)⟩
  ·exact h1.elim
 ·exact h1.elim
theorem ZGO {G:DH} (s:Sim a G):∀{ds:List D} {vs:List V},Reps a ds vs->ds.all (Lf G)=true->∃ls:List Src,vs=ls.map (λsr=>V.ref sr.adr)/\(∀sr∈ls,∃us,sr.sq a.K a.H us)/\
   ∀b:Wd,Ext a b->∀G',Sim b G'->∀i,(∀ys,Ip G' i ds=some (some ys)->∃us,DrV b.K b.H i ls us/\Reps b ys us)/\(Ip G' i ds=some none->StV b.K b.H i ls)
 | [],vs,r,_=>by
  cases (show vs= [] from r)
  refine ⟨[],rfl,(λ_ h=>nomatch h),λb x G' s' i=>⟨λys h=> ?_,λh=> ?_⟩⟩
  ·cases h;exact ⟨[],.nil,rfl⟩
  ·cases h
 | d::ds,vs,r,h=>by
  rw [List.all_cons,Bool.and_eq_true] at h;obtain ⟨v,vr,rfl,q1,q2⟩:=r
  obtain ⟨xs,hx⟩:=Option.isSome_iff_exists.mp (show (Cd d G).isSome=true from h.1)
  obtain ⟨sr,rfl,hq,rd⟩:=Yn s q1 hx;obtain ⟨ls,rfl,hqs,rds⟩:=ZGO s q2 h.2;refine ⟨sr::ls,rfl,λsr' hm=> ?_,λb x G' s' i=>⟨λys hy=> ?_,λhy=> ?_⟩⟩
  ·rcases List.mem_cons.mp hm with rfl | hm
   ·exact hq
   ·exact hqs sr' hm
  ·unfold Ip at hy;split at hy
   ·cases hy
   ·rename_i zs hz;obtain ⟨us,hu,ru⟩:=rd b x G' s' zs hz;split at hy
    ·cases hy
    ·rename_i y hyi;obtain ⟨u,hui,rx⟩:=ru.get hyi;split at hy
     ·rename_i ys' hys;cases hy;obtain ⟨us',d',r'⟩:=(rds b x G' s' i).1 ys' hys;exact ⟨u::us',.cons hu hui d',Reps.cons rx r'⟩
     ·rename_i hno;exact absurd hy (hno _)
  ·unfold Ip at hy;split at hy
   ·cases hy
   ·rename_i zs hz;obtain ⟨us,hu,ru⟩:=rd b x G' s' zs hz;split at hy
    ·rename_i hyi;exact .here hu (by rw [<-ru.length];exact List.getElem?_eq_none_iff.mp hyi)
    ·rename_i y hyi;obtain ⟨u,hui,rx⟩:=ru.get hyi;split at hy
     ·cases hy
     ·exact .there hu hui ((rds b x G' s' i).2 hy)
theorem ZLN {ds:List D} (hk:a.K=X.K) (rd:∀b:Wd,Ext a b->∀G',Sim b G'->∀i,(∀ys,Ip G' i ds=some (some ys)->∃us,DrV b.K b.H i ls us/\Reps b ys us)/\(Ip G' i ds=some none->StV b.K b.H i ls)) (n:Nat):
  RepI a (.fn n (Hw ds)) (Itz X.K ls):=by
 intro b x G' s' i;have kb:b.K=X.K:=x.k.trans hk;constructor
 ·intro e he;unfold Hw at he;cases hz:Ip G' i ds with
  | none=>rw [hz] at he;cases he
  | some o=>
   cases o with
   | none=>rw [hz] at he;cases he
   | some ys=>
    rw [hz] at he;have he':D.tup ys=e:=by simpa using he
    subst he';obtain ⟨us,d,ru⟩:=(rd b x G' s' i).1 ys hz;rw [kb] at d;refine ⟨⟨us,d⟩,?_⟩;rintro w H' ⟨p,us',rfl,hp,rfl,hu'⟩;cases hu' us d;exact ⟨b.put p (.tup us),rfl,Ext.put hp,s'.put hp,p,us,rfl,.of Gk,ru.mono (Ext.put hp)⟩
 ·intro he;unfold Hw at he;cases hz:Ip G' i ds with
  | none=>rw [hz] at he;cases he
  | some o=>
   cases o with
   | none=>
    have:=(rd b x G' s' i).2 hz;rw [kb] at this;exact this
   | some ys=>rw [hz] at he;cases he
noncomputable def Zq (n:Nat) (K:PySem.W.Frag) (ta:TA):TI:=λσ H R=>ta σ H λvs H1=>∃ls:List Src,vs=ls.map (λsr=>V.ref sr.adr)/\(∀sr∈ls,∃us,sr.sq K H1 us)/\ls.length=n/\R (Itz K ls) H1
theorem ZBI:∀{ls:List Src} {us:List Value},Vals (ls.map λsr=>V.ref sr.adr) us->us=ls.map λsr=>Value.ref sr.adr
 | [],us,h=>by cases h;rfl
 | sr::ls,us,h=>by
  rw [List.map_cons] at h;cases h with
  | cons r rr=>
   cases r;rw [ZBI rr]
   rfl
theorem V0 {n:Nat} {q:Src×Nat} (h:q∈ls.zipIdx n):q.1∈ls/\n<=q.2/\q.2 < n + ls.length:=by obtain ⟨i,hi,rfl⟩:=List.getElem_of_mem h;simp only [List.length_zipIdx] at hi;simp only [List.getElem_zipIdx];exact ⟨List.getElem_mem hi,by lia,by lia⟩
theorem ZEF {x1} {tp:Pos} {R:It->Hp->Prop} (I:Inv X pins σ H s) (hq:∀sr∈ls,∃us,sr.sq X.K H us) (hne:ls≠ []) (hl:ls.length<=1000000)
  (hct:checkTypeCall "zip" ⟨ls.map λsr=>Value.ref sr.adr,[]⟩=pure ()) (hcn:checkBuiltinCall "zip.__new__" ⟨.type "zip"::ls.map λsr=>Value.ref sr.adr,[]⟩=pure ()) (hok:∀obj,argsOk "object.__init__" ⟨obj::ls.map λsr=>Value.ref sr.adr,[]⟩)
  (q:R (Itz X.K ls) H):wpAny (model X.prog X.w) X.A (call (.type "zip") (ls.map λsr=>Value.ref sr.adr)) (λv s1=>wpAny (model X.prog X.w) X.A (pyIter v) (PIE X pins σ (.Tuple elts x1 tp) R) X.xe s1) X.xe s:=by
 have hv:∀sr∈ls,∃xs,sr.val s.heap xs:=λsr hm=>by obtain ⟨us,h⟩:=hq sr hm;obtain ⟨its,_,h',_⟩:=Src.sq.val I h;exact ⟨_,h'⟩
 have hlt:∀sr∈ls,sr.adr < s.heap.objs.size:=λsr hm=>by obtain ⟨xs,h⟩:=hv sr hm;obtain ⟨o,n,ho,_⟩:=h.obj;exact Heap.lt_size ho
 refine ZMH hv hl hct hcn hok λh' n hn hz hTI hTO hi kp=> ?_
 refine wpAny_pyIter_zip hz ?_;have I2:Inv X pins σ H {s with heap:=h'}:=I.kept (t':=s.toks) kp
 have em:(ls.zipIdx s.heap.objs.size).map (·.1)=ls:=by refine List.ext_getElem (by simp) λi h1 h2=>by simp
 have e2:(ls.zipIdx s.heap.objs.size).map (·.2)=List.range' s.heap.objs.size ls.length:=by refine List.ext_getElem (by simp) λi h1 h2=>by simp [Nat.add_comm]
 have qb:∀q∈ls.zipIdx s.heap.objs.size,q.1.adr < s.heap.objs.size/\s.heap.objs.size<=q.2/\q.2 < n:=λq hm=>⟨hlt _ (V0 hm).1,(V0 hm).2.1,by rw [hn];exact (V0 hm).2.2⟩
 have hsn:s.heap.objs.size<=n:=by rw [hn];exact Nat.le_add_right _ _
 have ap:ApZ (n + 1) (ls.zipIdx s.heap.objs.size):=⟨by rw [e2];exact List.nodup_range',λq hm=>Nat.ne_of_lt (Nat.lt_of_lt_of_le (qb q hm).1 (Nat.le_succ_of_le hsn)),λq hm r hr=>Nat.ne_of_lt (Nat.lt_of_lt_of_le (qb q hm).1 (qb r hr).2.1),λq hm=>Nat.ne_of_lt (Nat.lt_succ_of_lt (qb q hm).2.2)⟩;have T:=ZIR (P:=X.prog) (w:=X.w) (K:=X.K) (elts:=elts) (x1:=x1) (pos:=tp) (ls.zipIdx s.heap.objs.size) (n + 2) n (n + 1) ap ⟨Nat.succ_ne_self (n + 1),λq hm=>⟨Nat.ne_of_lt (Nat.lt_of_lt_of_le (qb q hm).2.2 (Nat.le_add_right n 2)),Nat.ne_of_lt (Nat.lt_of_lt_of_le (qb q hm).1 (Nat.le_trans hsn (Nat.le_add_right n 2)))⟩⟩
  ⟨Nat.ne_of_lt (Nat.lt_add_of_pos_right (by decide)),Nat.ne_of_lt (Nat.lt_succ_self n),λq hm=>Nat.ne_of_lt (qb q hm).2.2⟩ (by simpa using hl) (by intro e;apply hne;rw [<-em,e];rfl)
 rw [em] at T;refine ⟨n + 2,_,_,_,H,rfl,I2,T,⟨hz,hTI,⟨_,hTO,by simp⟩,hi⟩,λb hb=> ?_,q⟩;have hle:s.heap.objs.size<=b:=by
  rcases List.mem_cons.mp hb with rfl | hb
  ·exact Nat.le_trans hsn (Nat.le_add_right n 2)
  ·rcases List.mem_cons.mp hb with rfl | hb
   ·exact hsn
   ·rcases List.mem_cons.mp hb with rfl | hb
    ·exact Nat.le_succ_of_le hsn
    ·obtain ⟨q,hq,rfl⟩:=List.mem_map.mp hb;exact (V0 hq).2.1
 exact I.K1 hle (I.hok.fresh hle)
theorem ZKq (a b c:Value):checkTypeCall "zip" ⟨[a,b,c],[]⟩=pure ():=by kernel_rfl
theorem ZPK (a b c:Value):checkBuiltinCall "zip.__new__" ⟨[.type "zip",a,b,c],[]⟩=pure ():=by kernel_rfl
theorem ZNi (a b c d:Value):argsOk "object.__init__" ⟨[a,b,c,d],[]⟩:=by unfold argsOk;rw [signature?_of (id:="object.__init__") (n:= ['_','_','t','i','n','i','_','_']) (o:= ['t','c','e','j','b','o']) (by kernel_rfl) PySem.F.owner_object];kernel_rfl
theorem ZJF {elts:List Expr} {x1} {tp:Pos} {a b:Expr} {ta:TA} {p pos:Pos} (hg:Gl X "zip") (hm:X.mg "zip"=none) (ha:PA X [a,b] ta) (hs:starEach [a,b] X.env= [(false,eval a X.env),(false,eval b X.env)]:=by rfl) (hs2:starEach [b] X.env= [(false,eval b X.env)]:=by rfl):
  PI X (.Tuple elts x1 tp) (.Call (.Name "zip" p) [a,b] [] pos) (Zq 2 X.K ta):=by
 intro pins s σ H R I h;refine Call_ (Jk I hg hm PyProof.Rows.boot_zip (PyProof.Rows.callWith_type1 (thn (ha pos pins s σ H _ I h) λus s1 ⟨vs,H1,I1,r1,q1⟩=> ?_) (by rw [hs,hs2]) (by rw [hs2];rfl)));obtain ⟨ls,rfl,hq,hl,q⟩:=q1;cases ZBI r1
 match ls,hl with
 | [x,y],_=>exact ZEF I1 hq (by simp) (by simp) (PySem.F.typeCall_zip_2 _ _) (PySem.F.newCall_zip_2 _ _) (λobj=>PySem.F.args_object_init_3 obj _ _) q
theorem ZPG {elts:List Expr} {x1} {tp:Pos} {a b c:Expr} {ta:TA} {p pos:Pos} (hg:Gl X "zip") (hm:X.mg "zip"=none) (ha:PA X [a,b,c] ta) (hs:starEach [a,b,c] X.env= [(false,eval a X.env),(false,eval b X.env),(false,eval c X.env)]:=by rfl)
  (hs2:starEach [b,c] X.env= [(false,eval b X.env),(false,eval c X.env)]:=by rfl):PI X (.Tuple elts x1 tp) (.Call (.Name "zip" p) [a,b,c] [] pos) (Zq 3 X.K ta):=by
 intro pins s σ H R I h;refine Call_ (Jk I hg hm PyProof.Rows.boot_zip (PyProof.Rows.callWith_type1 (thn (ha pos pins s σ H _ I h) λus s1 ⟨vs,H1,I1,r1,q1⟩=> ?_) (by rw [hs,hs2]) (by rw [hs2];rfl)));obtain ⟨ls,rfl,hq,hl,q⟩:=q1;cases ZBI r1
 match ls,hl with
 | [x,y,z],_=>exact ZEF I1 hq (by simp) (by simp) (ZKq _ _ _) (ZPK _ _ _) (λobj=>ZNi obj _ _ _) q
theorem ZFL {n:Nat} {Q:It->Hp->Prop} (hK:K=X.K) (h:lI K E (Dl (J7 n) ta) σ H Q):Zq n K (lA K E ta) σ H Q:=by
 subst hK;obtain ⟨a,S,G,hk,rfl,s,r,h⟩:=h;refine ⟨a,S,G,hk,rfl,s,r,(U7 h).imp ?_⟩;rintro vs _ ⟨b,ds,G1,rfl,x,s1,q,-,h1⟩;unfold J7 at h1;split at h1
 ·rename_i hok;obtain ⟨ls,e,hq,rd⟩:=ZGO s1 q hok.1;have kb:b.K=X.K:=x.k.trans hk;have hl:ls.length=n:=by have:=q.length;rw [e,List.length_map] at this;lia
  exact ⟨ls,e,λsr hm=>by rw [<-kb];exact hq sr hm,hl,h1 b _ (Ext.refl b) s1 (ZLN kb rd _)⟩
 ·exact h1.elim
theorem ZFp {elts:List Expr} {x1} {tp:Pos} {a b:Expr} {p pos:Pos} (hg:Gl X "zip") (hm:X.mg "zip"=none) (ha:QA X E [a,b] ta) (hs:starEach [a,b] X.env= [(false,eval a X.env),(false,eval b X.env)]:=by rfl) (hs2:starEach [b] X.env= [(false,eval b X.env)]:=by rfl):
  QI X E (.Tuple elts x1 tp) (.Call (.Name "zip" p) [a,b] [] pos) (Dl (J7 2) ta):=(ZJF hg hm ha hs hs2).mono λσ H Q h=>ZFL rfl h
theorem ZH4 {elts:List Expr} {x1} {tp:Pos} {a b c:Expr} {p pos:Pos} (hg:Gl X "zip") (hm:X.mg "zip"=none) (ha:QA X E [a,b,c] ta) (hs:starEach [a,b,c] X.env= [(false,eval a X.env),(false,eval b X.env),(false,eval c X.env)]:=by rfl)
  (hs2:starEach [b,c] X.env= [(false,eval b X.env),(false,eval c X.env)]:=by rfl):QI X E (.Tuple elts x1 tp) (.Call (.Name "zip" p) [a,b,c] [] pos) (Dl (J7 3) ta):=(ZPG hg hm ha hs hs2).mono λσ H Q h=>ZFL rfl h
end
noncomputable def ixL:D->D->DH->R D
 | .ref p,.int k,G=>match G[p]? with
  | some (.lst xs)=>match atI xs k with
   | some v=>.ok v G
   | none=>.bad
  | _=>.bad
 | _,_,_=>.bad
noncomputable def Qq (to ti te:DE) (f:D->D->DH->R D):DS:=λS G=>(to S G).toS λo G1=>(ti S G1).toS λi G2=>(ixL o i G2).toS λx G3=>(te S G3).toS λy G4=>(f x y G4).toS λz G5=>(Mp o i z G5).toS λ_ G6=>.nx S G6
noncomputable def sBad:DS:=λ_ _=>.bad
section
variable {X:Cx} {E:XK}
theorem ZKu {st:Stmt}:QS X E st sBad:=λpins s σ H W I h=>by obtain ⟨a,S,G,hk,rfl,sm,r,h⟩:=h;exact h.elim
theorem Wm {o i e:Expr} {op:Operator} {to ti te:DE} {f:D->D->DH->R D} {tpos pos:Pos} (ho:QE X E o to) (hi:QE X E i ti) (he:QE X E e te) (hop:OpR X (inplaceOp op) (lR2 X.K E f))
  (ha:∀ov iv new,augStore i ov iv new=(do holding [new,ov,iv] (setItem ov iv new);release [new,ov,iv] [];pure .next):=by intros;rfl):QS X E (.AugAssign (.Subscript o i tpos) op e pos) (Qq to ti te f):=by
 intro pins s σ H W I h;obtain ⟨a,S,G,hk,rfl,sm,r,h⟩:=h;refine wpAny_AugAssign_SubscriptAny (thn (ho pins s σ a.H _ I ⟨a,S,G,hk,rfl,sm,r,Iw h⟩) ?_) ha;rintro ov s1 ⟨vo,H1,I1,ro,b1,o,G1,rfl,x1,m1,q1,_,h1⟩;have k1:=x1.k.trans hk;refine thn (hi pins s1 σ b1.H _ I1 ⟨b1,S,G1,k1,rfl,m1,r.mono x1,Iw h1⟩) ?_;rintro iv s2 ⟨vi,H2,I2,ri,b2,i,G2,rfl,x2,m2,q2,_,h2⟩;have k2:=x2.k.trans k1;have q1':=q1.mono x2;cases i with
 | int k=>
  cases o with
  | ref p=>
   obtain ⟨hp,rfl⟩:=q1'
   cases (show vi=V.int k from q2)
   cases ro;obtain ⟨t,rfl⟩:=ri;unfold ixL at h2;dsimp only at h2;split at h2
   ·rename_i xs hx';obtain ⟨vs,e1,r1⟩:=m2.lst hx';split at h2
    ·rename_i d hd;obtain ⟨v,ev,rd⟩:=ZFQ r1 hd;have h2':Cw E b2 ((te S G2).toS λy G4=>(f d y G4).toS λz G5=>(Mp (.ref p) (.int k) z G5).toS λ_ G6=>.nx S G6) W:=h2;obtain ⟨its,rv,pl,hz⟩:=I2.list (.of e1);obtain ⟨j,g1,g2,g3,g4,g5⟩:=Xp ev;obtain ⟨w,ew,rw'⟩:=rv.get g2;have hl:=rv.length;have hn:=line63;have fin:wpAny (model X.prog X.w) X.A (getItem (.ref (b2.m p)) (.int k t)) (λold s3=>old=w/\s3=s2) X.xe s2:=by
      by_cases h0:0<=k
      ·have hj:k.toNat=j:=by rw [seqIndex_of h0 g5] at g1;exact Option.some.inj g1
       exact wpAny_getItem_list pl.isList h0 (by lia) (by rw [hj];simpa using ew) ⟨rfl,rfl⟩
      ·have hj:(k + (its.toArray.size:Int)).toNat=j:=by rw [seqIndex_neg (by lia) g4] at g1;rw [List.size_toArray,<-hl];exact Option.some.inj g1
       exact wpAny_getItem_list_neg pl.isList (by lia) (by rw [List.size_toArray] <;> lia) (by lia) (by rw [hj];simpa using ew) ⟨rfl,rfl⟩
     refine thn fin ?_;rintro old s3 ⟨rfl,rfl⟩;refine thn (he pins s3 σ b2.H _ I2 ⟨b2,S,G2,k2,rfl,m2,(r.mono x1).mono x2,Iw h2'⟩) ?_;rintro yv s4 ⟨vy,H4,I4,ry,b4,y,G4,rfl,x4,m4,q4,_,h4⟩;have k4:=x4.k.trans k2;refine thn (hop pins s4 σ b4.H v vy old yv _ I4 rw' ry ⟨b4,G4,d,y,k4,rfl,m4,rd.mono x4,q4,Iw h4⟩) ?_;rintro new s5 ⟨vn,H5,I5,rn,b5,z,G5,rfl,x5,m5,q5,_,h5⟩;unfold Mp at h5;dsimp only at h5;split at h5
     ·rename_i ys hy;split at h5
      ·rename_i jj hjj;obtain ⟨ws,e5,r5⟩:=m5.lst hy;have hp5:p < b5.n:=Nat.lt_of_lt_of_le hp (Nat.le_trans x4.n x5.n);have em:b5.m p=b2.m p:=(x5.m p (Nat.lt_of_lt_of_le hp x4.n)).trans (x4.m p hp);obtain ⟨x6,m6⟩:=ZBc m5 hp5 e5 (r5.set q5 jj);refine thn (set_list pins s5 σ b5.H (.ref (b2.m p)) (.int k) vn (.ref (b2.m p)) (.int k t) new (λH'=>W.nx σ H') I5 rfl ⟨t,rfl⟩ rn ⟨b5.m p,ws,k,jj,by rw [em],rfl,e5,by rw [<-r5.length];exact hjj,?_⟩) ?_
       ·exact h5 _ σ x6 m6 (((((r.mono x1).mono x2).mono x4).mono x5).mono x6)
       ·rintro _ s6 ⟨H6,I6,q6⟩;exact ⟨σ,H6,I6,q6⟩
      ·exact h5.elim
     ·exact h5.elim
    ·exact h2.elim
   ·exact h2.elim
  | _=>exact (show False from h2).elim
 | _=>cases o <;> exact (show False from h2).elim
end
noncomputable def Ol (ds:List D) (G:DH):R D:=match ds with
 | [d]=>match Cd d G with
  | some xs=>match Gx xs with
   | some (n::ns)=>.ok (.int (ns.foldl min n)) G
   | _=>.bad
  | none=>.bad
 | _=>.bad
noncomputable def Pk (ds:List D) (G:DH):R D:=match ds with
 | [d]=>match Cd d G with
  | some xs=>match Gx xs with
   | some (n::ns)=>.ok (.int (ns.foldl max n)) G
   | _=>.bad
  | none=>.bad
 | _=>.bad
theorem Yb:∀(ns:List Int) (n:Int),ns.foldl min n<=n/\(∀x∈ns,ns.foldl min n<=x)/\(ns.foldl min n=n∨ns.foldl min n∈ns)
 | [],n=>⟨Int.le_refl _,λx h=>(by cases h),.inl rfl⟩
 | m::ns,n=>by
  obtain ⟨h1,h2,h3⟩:=Yb ns (min n m);rw [List.foldl_cons];refine ⟨by lia,λx hx=> ?_,?_⟩
  ·rcases List.mem_cons.mp hx with rfl | hx
   ·lia
   ·exact h2 x hx
  ·rcases h3 with h | h
   ·by_cases e:n<=m
    ·exact .inl (by rw [h];lia)
    ·exact .inr (by rw [h];rw [show min n m=m by lia];exact List.mem_cons_self)
   ·exact .inr (List.mem_cons_of_mem _ h)
theorem ZEk:∀(ns:List Int) (n:Int),n<=ns.foldl max n/\(∀x∈ns,x<=ns.foldl max n)/\(ns.foldl max n=n∨ns.foldl max n∈ns)
 | [],n=>⟨Int.le_refl _,λx h=>(by cases h),.inl rfl⟩
 | m::ns,n=>by
  obtain ⟨h1,h2,h3⟩:=ZEk ns (max n m);rw [List.foldl_cons];refine ⟨by lia,λx hx=> ?_,?_⟩
  ·rcases List.mem_cons.mp hx with rfl | hx
   ·lia
   ·exact h2 x hx
  ·rcases h3 with h | h
   ·by_cases e:m<=n
    ·exact .inl (by rw [h];lia)
    ·exact .inr (by rw [h];rw [show max n m=m by lia];exact List.mem_cons_self)
   ·exact .inr (List.mem_cons_of_mem _ h)
section
variable {X:Cx} {E:XK}
theorem intAt {ns:List Int} {its:List Value} {w:Value} (hv:Vals (ns.map V.int) its) (hw:its.toArray[i]? =some w):i < ns.length/\∃t,w=.int (ns.getD i 0) t:=by
 have hw':its[i]? =some w:=by simpa using hw
 have hl:i < (ns.map V.int).length:=by rw [hv.length];exact (List.getElem?_eq_some_iff.mp hw').1
 have hl':i < ns.length:=by simpa using hl
 obtain ⟨u,hu,ru⟩:=hv.get (i:=i) (x:=V.int ns[i]) (by simp [hl']);rw [hw'] at hu;cases hu;obtain ⟨t,rfl⟩:=ru;exact ⟨hl',t,by simp [hl']⟩
theorem ZNE (hc:X.calm=true):CallR X (.builtin "min") (lRn X.K E Ol):=by
 intro pins s σ H vs us Q I rs h;obtain ⟨a,G,ds,hk,rfl,sm,r,q⟩:=h;unfold Ol at q;split at q
 ·rename_i d;obtain ⟨v,rfl,rv⟩:=reps1 r;split at q
  ·rename_i xs hs;split at q
   ·rename_i n ns hn;cases T6 hn;obtain ⟨p,ws,rfl,h1,r1⟩:=Lp sm rv hs;cases Vp r1;rw [hk] at h1;obtain ⟨u,rfl,ru⟩:=vals1 rs;cases ru;refine call_min_walk (Uy I hc h1 λit fp wr its St s₂ hv W st hfp fin=>⟨it,fp,wr,its.toArray.size,_,St,_,rfl,W,st,hfp,?_,CmpOf.ints_lt (λi=>(n::ns).getD i 0) (λi w hw=>(intAt hv hw).2),λw h' tk hw kk=> ?_⟩)
    ·rw [List.size_toArray,<-hv.length];simp
    ·obtain ⟨hl,t,rfl⟩:=intAt hv hw;obtain ⟨b1,b2⟩:=argBest_lt (λi=>(n::ns).getD i 0) (its.toArray.size - 1);refine ⟨.int (ns.foldl min n),a.H,fin h' tk kk,⟨t,?_⟩,q a _ (Ext.refl a) sm rfl⟩;have hsz:its.toArray.size=ns.length + 1:=by rw [List.size_toArray,<-hv.length];simp
     obtain ⟨m1,m2,m3⟩:=Yb ns n;have hle:∀x∈n::ns,ns.foldl min n<=x:=λx hx=>by
      rcases List.mem_cons.mp hx with rfl | hx
      ·exact m1
      ·exact m2 x hx
     have hin:ns.foldl min n∈n::ns:=by
      rcases m3 with h | h
      ·rw [h];exact List.mem_cons_self
      ·exact List.mem_cons_of_mem _ h
     obtain ⟨j,hj,ej⟩:=List.getElem_of_mem hin;have c1:=b2 j (by simp at hj;lia);have c2:=hle _ (List.getElem_mem hl);have e1:(n::ns).getD j 0=ns.foldl min n:=by rw [List.getD_eq_getElem?_getD,List.getElem?_eq_getElem hj];exact ej
     have e2:(n::ns).getD (argBest (λi j=>decide ((λi=>(n::ns).getD i 0) i < (λi=>(n::ns).getD i 0) j)) (its.toArray.size - 1)) 0=(n::ns)[argBest (λi j=>decide ((λi=>(n::ns).getD i 0) i < (λi=>(n::ns).getD i 0) j)) (its.toArray.size - 1)]:=by rw [List.getD_eq_getElem?_getD,List.getElem?_eq_getElem hl];rfl
     have c1':=c1;rw [e1] at c1';rw [<-e2] at c2
     congr 1
     exact Int.le_antisymm c1' c2
   ·exact q.elim
  ·exact q.elim
 ·exact q.elim
theorem ZO5 (hc:X.calm=true):CallR X (.builtin "max") (lRn X.K E Pk):=by
 intro pins s σ H vs us Q I rs h;obtain ⟨a,G,ds,hk,rfl,sm,r,q⟩:=h;unfold Pk at q;split at q
 ·rename_i d;obtain ⟨v,rfl,rv⟩:=reps1 r;split at q
  ·rename_i xs hs;split at q
   ·rename_i n ns hn;cases T6 hn;obtain ⟨p,ws,rfl,h1,r1⟩:=Lp sm rv hs;cases Vp r1;rw [hk] at h1;obtain ⟨u,rfl,ru⟩:=vals1 rs;cases ru;refine call_max_walk (Uy I hc h1 λit fp wr its St s₂ hv W st hfp fin=>⟨it,fp,wr,its.toArray.size,_,St,_,rfl,W,st,hfp,?_,CmpOf.ints_gt (λi=>(n::ns).getD i 0) (λi w hw=>(intAt hv hw).2),λw h' tk hw kk=> ?_⟩)
    ·rw [List.size_toArray,<-hv.length];simp
    ·obtain ⟨hl,t,rfl⟩:=intAt hv hw;obtain ⟨b1,b2⟩:=argBest_gt (λi=>(n::ns).getD i 0) (its.toArray.size - 1);refine ⟨.int (ns.foldl max n),a.H,fin h' tk kk,⟨t,?_⟩,q a _ (Ext.refl a) sm rfl⟩;have hsz:its.toArray.size=ns.length + 1:=by rw [List.size_toArray,<-hv.length];simp
     obtain ⟨m1,m2,m3⟩:=ZEk ns n;have hle:∀x∈n::ns,x<=ns.foldl max n:=λx hx=>by
      rcases List.mem_cons.mp hx with rfl | hx
      ·exact m1
      ·exact m2 x hx
     have hin:ns.foldl max n∈n::ns:=by
      rcases m3 with h | h
      ·rw [h];exact List.mem_cons_self
      ·exact List.mem_cons_of_mem _ h
     obtain ⟨j,hj,ej⟩:=List.getElem_of_mem hin;have c1:=b2 j (by simp at hj;lia);have c2:=hle _ (List.getElem_mem hl);have e1:(n::ns).getD j 0=ns.foldl max n:=by rw [List.getD_eq_getElem?_getD,List.getElem?_eq_getElem hj];exact ej
     have e2:(n::ns).getD (argBest (λi j=>decide ((λi=>(n::ns).getD i 0) i > (λi=>(n::ns).getD i 0) j)) (its.toArray.size - 1)) 0=(n::ns)[argBest (λi j=>decide ((λi=>(n::ns).getD i 0) i > (λi=>(n::ns).getD i 0) j)) (its.toArray.size - 1)]:=by rw [List.getD_eq_getElem?_getD,List.getElem?_eq_getElem hl];rfl
     have c1':=c1;rw [e1] at c1';rw [<-e2] at c2
     congr 1
     exact Int.le_antisymm c2 c1'
   ·exact q.elim
  ·exact q.elim
 ·exact q.elim
noncomputable def Kg:D->D->DH->R D
 | .ref p,.int k,G=>match G[p]? with
  | some (.lst xs)=>if -(2 ^ 63)<=k/\k < 2 ^ 63/\xs.length * k.toNat<=1000000 then .ok (.ref G.length) (G++ [.lst (List.replicate k.toNat xs).flatten]) else .bad
  | _=>.bad
 | _,_,_=>.bad
theorem Reps.rep {ds:List D} {vs:List V} (r:Reps a ds vs):∀k,Reps a (List.replicate k ds).flatten (List.replicate k vs).flatten
 | 0=>rfl
 | k + 1=>by rw [List.replicate_succ,List.replicate_succ,List.flatten_cons,List.flatten_cons];exact r.append (Reps.rep r k)
theorem ZDx:OpR X (binaryOp .Mult) (lR2 X.K E Kg):=ZLU.mono λx y H Q h=>by
 obtain ⟨a,G,d,e,hk,rfl,s,rd,re,q⟩:=h;cases d with
 | ref p=>
  cases e with
  | int k=>
   unfold Kg at q;dsimp only at q;split at q
   ·rename_i xs hx;split at q
    ·rename_i hc;obtain ⟨vs,e1,r1⟩:=s.lst hx;obtain ⟨hp,rfl⟩:=rd;refine ⟨a.m p,k,vs,rfl,re,e1,hc.1,hc.2.1,?_,λp hp=>Ls s (Reps.rep r1 k.toNat) q p hp⟩;rw [<-r1.length];exact Nat.le_trans hc.2.2 size6
    ·exact q.elim
   ·exact q.elim
  | _=>exact (show False from q).elim
 | _=>exact (show False from q).elim
end
end DL
namespace DL
open PySem PySem.W PyProof.Rows
noncomputable def Safe (n:Nat) {α:Type} (P:α->Prop):KasT α->Prop
 | .ret a=>P a
 | .ask i j k=>i < n/\j < n/\∀b,Safe n P (k b)
theorem Safe.bind {n:Nat} {α β:Type} {f:α->KasT β} {P:α->Prop} {Q:β->Prop} (h2:∀a,P a->Safe n Q (f a)):∀{t:KasT α},Safe n P t->Safe n Q (t.bind f)
 | .ret a,h=>h2 a h
 | .ask _ _ _,h=>⟨h.1,h.2.1,λb=>Safe.bind h2 (h.2.2 b)⟩
noncomputable def Ents (n:Nat) (p:Array Nat):Prop:=0 < n/\p.Perm (List.range n).toArray
theorem Ents.lt {n:Nat} {p:Array Nat} (h:Ents n p) {x:Nat} (hx:x∈p):x < n:=by have:=h.2.mem_iff.mp hx;simpa using this
theorem Ents.pt {n:Nat} {p:Array Nat} (h:Ents n p) (k:Nat):p.getD k 0 < n:=by
 by_cases hk:k < p.size
 ·have:p.getD k 0=p[k]:=by simp [Array.getD,hk]
  rw [this];exact h.lt (Array.getElem_mem hk)
 ·have:p.getD k 0=0:=by simp [Array.getD,hk]
  rw [this];exact h.1
theorem Ents.perm {n:Nat} {p q:Array Nat} (h:Ents n p) (e:q.Perm p):Ents n q:=⟨h.1,e.trans h.2⟩
theorem ZCn {n:Nat} {p:Array Nat} (h:Ents n p):∀f m,Safe n (λ_=>True) (kas_asc p f m)
 | 0,m=>trivial
 | f + 1,m=>⟨h.pt _,h.pt _,λb=>by
   cases b with
   | true=>exact trivial
   | false=>exact ZCn h f (m + 1)⟩
theorem Um {n:Nat}:∀f {p:Array Nat} m q,Ents n p->Safe n (λr=>Ents n r.1) (kas_desc f p m q)
 | 0,p,m,q,h=>h
 | f + 1,p,m,q,h=>⟨h.pt _,h.pt _,λb=>by
   cases b with
   | true=>
    by_cases hq:q > 0
    ·simp only [if_true,if_pos hq];exact Um f _ _ (h.perm (mirror_perm ..))
    ·simp only [if_true,if_neg hq];exact Um f _ _ h
   | false=>
    refine ⟨h.pt _,h.pt _,λd=> ?_⟩;cases d with
    | true=>exact h
    | false=>exact Um f _ _ h⟩
theorem ZHr {n:Nat} {p:Array Nat} (h:Ents n p) (m k:Nat):Safe n (λr=>Ents n r.2) (kas_tail3 m k p):=by unfold kas_tail3;refine Safe.bind (P:=λ_=>True) (λa _=> ?_) (ZCn (h.perm (mirror_perm ..)) _ _);exact h.perm (mirror_perm ..)
theorem ZHS {n:Nat} {p:Array Nat} (h:Ents n p) (m k:Nat):Safe n (λr=>Ents n r.2) (kas_descPart m k p):=
 Safe.bind (P:=λr=>Ents n r.1) (λa ha=>by
  split
  ·exact ZHr (ha.perm (mirror_perm ..)) _ _
  ·exact ZHr ha _ _) (Um _ _ _ h)
theorem ZFX {n:Nat} {p:Array Nat} (h:Ents n p) (k:Nat):Safe n (λr=>Ents n r.2) (kas_count k p):=
 Safe.bind (P:=λ_=>True) (λa _=>by
  split
  ·exact h
  ·split
   ·refine ⟨h.pt _,h.pt _,λc=> ?_⟩;cases c with
    | true=>exact h
    | false=>exact ZHS (h.perm (mirror_perm ..)) _ _
   ·exact ZHS h _ _) (ZCn h _ _)
theorem Vm {n:Nat} {p:Array Nat} (h:Ents n p) (k:Nat):∀f l r,Safe n (λ_=>True) (kas_place p k f l r)
 | 0,l,r=>trivial
 | f + 1,l,r=>by
  unfold kas_place;split
  ·trivial
  ·refine ⟨h.pt _,h.pt _,λc=> ?_⟩;cases c with
   | true=>exact Vm h k f _ _
   | false=>exact Vm h k f _ _
theorem ZGT {n:Nat}:∀f {p:Array Nat} k,Ents n p->Safe n (λ_=>True) (kas_bin f p k)
 | 0,p,k,h=>trivial
 | f + 1,p,k,h=>Safe.bind (P:=λ_=>True) (λa _=>ZGT f _ (h.perm (bubble_perm ..))) (Vm h k _ _ _)
theorem ZO4 {n:Nat} (hn:0 < n):Safe n (λ_=>True) (kas_sort n):=
 Safe.bind (P:=λr=>Ents n r.2) (λa ha=>by
  split
  ·exact ZGT _ _ ha
  ·trivial) (ZFX ⟨hn,Array.Perm.refl _⟩ _)
end DL
namespace DL
open PySem PySem.Spec L2
open PyProof.Rows hiding St
variable {a:Wd} {d:D} {v:V} {xs ys:List D} {G:DH} {vs:List V} {te:DE} {g:DG} {k:Nat} {us:List (Str×V)} {F:List D->DH->R D} {CX:CXT} {fd:FuncData} {ps:List Str} {e:Expr} {ta:DA} {T:String}
noncomputable def ltL:List D->List D->Option Bool
 | [],[]=>some false
 | [],_::_=>some true
 | _::_,[]=>some false
 | .int a::r,.int b::r'=>if a=b then ltL r r' else some (decide (a < b))
 | .str a::r,.str b::r'=>if a=b then ltL r r' else some (decide (a.cps.toList < b.cps.toList))
 | _::_,_::_=>none
noncomputable def ltD:D->D->Option Bool
 | .tup xs,.tup ys=>ltL xs ys
 | _,_=>none
noncomputable def ltI (xs:List D) (i j:Nat):Bool:=(ltD (xs.getD i .non) (xs.getD j .non)).getD false
noncomputable def isIt:D->Bool
 | .tup (.int _::_)=>true
 | _=>false
noncomputable def V9:D->Bool
 | .tup (.str _::_)=>true
 | _=>false
noncomputable def Qo (xs:List D):Bool:=(xs.all isIt || xs.all V9) && xs.all λx=>xs.all λy=>(ltD x y).isSome
noncomputable def M7 (xs:List D):List D:=if xs.length < 2 then xs else (Cp (ltI xs) (PySem.W.kas_sort xs.length)).toList.map λi=>xs.getD i .non
noncomputable def Rm (ds:List D) (G:DH):R D:=match ds with
 | [d]=>match I9 d G with
  | some xs=>if (xs.length < 64/\(M7 xs).length < 64)/\Qo xs=true then .ok (.ref G.length) (G++ [.lst (M7 xs)]) else .bad
  | none=>.bad
 | _=>.bad
theorem ZG3 {n:Nat} {cmp:Nat->Nat->(Bool->Shared->Prop)->Shared->Prop} {lt:Nat->Nat->Bool} {s:Shared} (h:∀i j,i < n->j < n->∀C:Bool->Shared->Prop,C (lt i j) s->cmp i j C s) {α:Type} {P:α->Prop} {Q:α->Shared->Prop}:
  ∀{t:PySem.W.KasT α},Safe n P t->Q (Cp lt t) s->t.kasWp cmp Q s
 | .ret _,_,hq=>hq
 | .ask i j k,hs,hq=>h i j hs.1 hs.2.1 _ (ZG3 h (hs.2.2 (lt i j)) hq)
section
variable {prog:Program} {w:World} {A:Around} {s:Shared}
theorem ZMv {c:Bool} {a b:Int} {t u:Tok} {Q:Bool->Shared->Prop} {E:Value->Shared->Prop} (h:Q (decide (a < b)) s):wpAny (model prog w) A (oneLt' c (.int a t) (.int b u)) Q E s:=by
 cases c with
 | true=>exact oneLt_int h
 | false=>exact PySem.W.kat_one _ _ (lt_int (Q:=PySem.W.BoolBack Q) h)
theorem ZM1 {c:Bool} {a b:Str} {t u:Tok} {Q:Bool->Shared->Prop} {E:Value->Shared->Prop} (h:Q (decide (a.cps.toList < b.cps.toList)) s):wpAny (model prog w) A (oneLt' c (.str a t) (.str b u)) Q E s:=by
 cases c with
 | true=>exact oneLt_str h
 | false=>exact PySem.W.kat_one _ _ (lt_str (Q:=PySem.W.BoolBack Q) h)
theorem Zh {Q:Bool->Shared->Prop} {fin:Bool}:∀{xs ys:List D} {vs ws:List V} {us zs:List Value} {i:Nat} {k:Bool},Reps a xs vs->Reps a ys ws->Vals vs us->Vals ws zs->ltL xs ys=some k->fin=decide (us.length < zs.length)->Q k s->
  PySem.W.KatLex prog w A true fin Q (us.zip zs) i s
 | [],[],vs,ws,us,zs,i,k,r1,r2,v1,v2,h,hf,hq=>by
  cases (show vs= [] from r1);cases (show ws= [] from r2);cases v1;cases v2
  cases h;subst hf;exact PySem.W.kat_nil hq
 | [],y::ys,vs,ws,us,zs,i,k,r1,r2,v1,v2,h,hf,hq=>by
  cases (show vs= [] from r1);cases v1
  obtain ⟨w1,wr,rfl,_,_⟩:=r2;cases v2;cases h;subst hf;exact PySem.W.kat_nil (by simpa using hq)
 | x::xs,[],vs,ws,us,zs,i,k,r1,r2,v1,v2,h,hf,hq=>by
  cases (show ws= [] from r2);cases v2
  obtain ⟨w1,wr,rfl,_,_⟩:=r1;cases v1;have hk:k=false:=by cases x <;> (simp [ltL] at h;exact h)
  subst hk;subst hf;exact PySem.W.kat_nil (by simpa using hq)
 | x::xs,y::ys,vs,ws,us,zs,i,k,r1,r2,v1,v2,h,hf,hq=>by
  have hcase:(∃m n,x=.int m/\y=.int n)∨(∃m n,x=.str m/\y=.str n):=by
   cases x <;> cases y <;> first
    | exact .inl ⟨_,_,rfl,rfl⟩
    | exact .inr ⟨_,_,rfl,rfl⟩
    | (exfalso;simp [ltL] at h)
  obtain ⟨v0,vr,rfl,e1,r1⟩:=r1;obtain ⟨w0,wr,rfl,e2,r2⟩:=r2;rcases hcase with ⟨m,n,rfl,rfl⟩ | ⟨m,n,rfl,rfl⟩
  ·cases (show v0=V.int m from e1)
   cases (show w0=V.int n from e2)
   cases v1 with
   | cons q1 v1=>
    cases v2 with
    | cons q2 v2=>
     obtain ⟨t,rfl⟩:=q1;obtain ⟨u,rfl⟩:=q2;rw [List.zip_cons_cons];refine PySem.W.kat_cons (wpAny_eqBool_int (PySem.W.kat_go (λhe=> ?_) λhe=> ?_))
     ·have e:m=n:=by simpa using he
      rw [show ltL (.int m::xs) (.int n::ys)=if m=n then ltL xs ys else some (decide (m < n)) from rfl,if_pos e] at h
      exact PySem.W.kat_yes (Zh r1 r2 v1 v2 h (by simpa using hf) hq)
     ·have e:m≠n:=by simpa using he
      rw [show ltL (.int m::xs) (.int n::ys)=if m=n then ltL xs ys else some (decide (m < n)) from rfl,if_neg e] at h
      cases h;exact PySem.W.kat_no (ZMv hq)
  ·cases (show v0=V.str m from e1)
   cases (show w0=V.str n from e2)
   cases v1 with
   | cons q1 v1=>
    cases v2 with
    | cons q2 v2=>
     obtain ⟨t,rfl⟩:=q1;obtain ⟨u,rfl⟩:=q2;rw [List.zip_cons_cons];refine PySem.W.kat_cons (wpAny_eqBool_str (PySem.W.kat_go (λhe=> ?_) λhe=> ?_))
     ·have e:m=n:=by simpa using he
      rw [show ltL (.str m::xs) (.str n::ys)=if m=n then ltL xs ys else some (decide (m.cps.toList < n.cps.toList)) from rfl,if_pos e] at h
      exact PySem.W.kat_yes (Zh r1 r2 v1 v2 h (by simpa using hf) hq)
     ·have e:m≠n:=by simpa using he
      rw [show ltL (.str m::xs) (.str n::ys)=if m=n then ltL xs ys else some (decide (m.cps.toList < n.cps.toList)) from rfl,if_neg e] at h
      cases h;exact PySem.W.kat_no (ZM1 hq)
end
section
variable {X:Cx} {E:XK} {pins:List (Addr×Obj)} {σ:St} {s:Shared} {H:Hp} {h':Heap}
theorem ZGK {t':Nat} (I:Inv X pins σ H s) (k:∀b o,b≠X.env.locals->s.heap.get? b=some o->h'.get? b=some o) (ns:∀m,s.heap.Ns X.env.locals m->h'.Ns X.env.locals m):Inv X pins σ H {s with heap:=h',toks:=t'}:=by
 refine I.step (g':=s.gens) (d':=s.drawn) (ch:= []) (λ_ z=>nomatch z) (λb o hL _ _ e _=>k b o hL e) (λb o hL _ _ e _=>⟨o.slots,k b o hL e⟩) (λ_ _ _ _ n=>n) (λb o _ e=> ?_) (λ_ _ e=>e) (λ_ _ _ e=>e)
  (λb ps e=>⟨#[],by rw [e];simp⟩) ns (λb u e=> ?_) I.bare
 ·by_cases hb:b=X.env.locals
  ·obtain ⟨m,hn,_⟩:=I.loc;obtain ⟨o',_,_,ho',_⟩:=ns m hn;exact ⟨o',by rw [hb];exact ho'⟩
  ·exact ⟨o,k b o hb e⟩
 ·have nL:∀c w,H c=some w->c≠X.env.locals:=λc w e z=>by rw [z,I.free] at e;cases e
  refine (I.hok b u e).stay (λc v hc q=>k c v ?_ q) (λ_ q=>q) λ_ _ q=>q
  rcases hc with z | z
  ·rw [z];exact nL b u e
  ·exact nL c _ z
end
section
variable {prog:Program} {w:World} {A:Around} {E:Value->Shared->Prop} {s:Shared}
theorem ZLR {l:Addr} {vs:List Value} {Q:Value->Shared->Prop} (hl:s.heap.IsList l vs.toArray) (hz:vs.length < 64)
  (h:∀h1,h1.get? (s.heap.objs.size + 1)=some (seqObj "list" vs.toArray 0)->(∀b o,s.heap.get? b=some o->h1.get? b=some o)->
   wpAny (model prog w) A.in1.in1 (Builtin.«list.sort» ⟨[.ref (s.heap.objs.size + 1)],[]⟩) (λfin s'=>fin=.done (.ret .none)/\Q (.ref (s.heap.objs.size + 1)) s') E {s with heap:=h1}):
  wpAny (model prog w) A (call (.builtin "sorted") [.ref l]) Q E s:=by
 have h64:vs.length<=sizeLine:=by rw [sizeLine_eq];lia
 refine Calls.call_function_entry kind_sorted plain_sorted entry_sorted (args_sorted1 _) ?_;unfold Builtin.«sorted»;refine wpAny_bind (m:=checkCount "sorted" 1 1 _) (wpAny_pure (wpAny_bind (collect_list hl (wpAny_bind (wpAny_newList ?_ h64)) h64)))
 generalize hh:(s.heap.push (seqObj "list" #[] 0)).update s.heap.objs.size (Obj.mapSeq (·++vs.toArray))=h0
 have e0:h0.objs.size=s.heap.objs.size + 1:=by rw [<-hh,Heap.size_update,size_push']
 have k0:∀b o,s.heap.get? b=some o->h0.get? b=some o:=λb o q=>by have hlt:b < s.heap.objs.size:=Heap.lt_size q;rw [<-hh,Heap.get?_update_ne _ _ _ _ (Nat.ne_of_lt hlt),Heap.get?_push_ne _ _ _ (Nat.ne_of_lt hlt)];exact q
 have hD:(h0.push (seqObj "list" vs.toArray 0)).get? (s.heap.objs.size + 1)=some (seqObj "list" vs.toArray 0):=by rw [<-e0];exact Heap.get?_push_size _ rfl
 have hq:=h (h0.push (seqObj "list" vs.toArray 0)) hD λb o q=>Heap.get?_push_of_some _ (k0 b o q)
 show wpAny _ _ _ _ _ {s with heap:=h0.push (seqObj "list" vs.toArray 0)};rw [e0];refine wpAny_bind (wpAny_holding (wpAny_call_entry slot_list_sort ⟨_,hD,rfl⟩ entry_list_sort ?_ (args_list_sort _)));refine wpAny_mono hq (λfin s' hf=> ?_) λ_ _ x=>x
 exact ⟨_,hf.1,wpAny_pure ⟨_,rfl,hf.2⟩⟩
theorem ZPe {a:Addr} {vs:List Value} {n:Nat} {P:Fin->Shared->Prop} (ho:s.heap.get? a=some (seqObj "list" vs.toArray n)) (h2:vs.length < 2)
  (h:∀h' c,h'.get? a=some (seqObj "list" vs.toArray c)->(∀b o,b≠a->s.heap.get? b=some o->h'.get? b=some o)->P (.done (.ret .none)) {s with heap:=h'}):wpAny (model prog w) A (Builtin.«list.sort» ⟨[.ref a],[]⟩) P E s:=by
 have ha:a < s.heap.objs.size:=Heap.lt_size ho;have s1:=Heap.SameBut.update s.heap a (Obj.mapSeq λ_=>(#[]:Array Value));obtain ⟨e1,ho1⟩:∃e1,(s.heap.update a (Obj.mapSeq λ_=>(#[]:Array Value))).get? a=some (seqObj "list" #[] e1):=⟨_,get?_update_seq ho λ_=> #[]⟩;rw [list_sort_plain];refine wpAny_bind (listItems_at ho rfl (wpAny_bind (listUpdate_at ho rfl ?_ (by rw [List.size_toArray,sizeLine_eq];lia) (Nat.zero_le _))))
 refine wpAny_bind (seqEpoch_at ho1 rfl (wpAny_bind (wpAny_newTuple (wpAny_bind (wpAny_newList (wpAny_holding ?_) (Nat.zero_le _))) (by show vs.length<=_;rw [sizeLine_eq];lia))));dsimp only;have hn2:vs.toArray.size < 2:=by rw [List.size_toArray];lia
 rw [if_pos hn2,if_pos hn2];refine wpAny_bind (wpAny_pure (wpAny_bind (wpAny_of_eq (a:=((),SortSt.mk' general' (vs.toArray.zip vs.toArray) #[] 7 none)) rfl ?_)));dsimp only
 have hout:(arrOf (SortSt.mk' general' (vs.toArray.zip vs.toArray) #[] 7 none)).map (·.2)=vs.toArray:=by
  show (vs.toArray.zip vs.toArray).map (·.2)=vs.toArray
  refine Array.ext (by simp) λi h1 h2=>by simp
 rw [hout];generalize hh:((s.heap.update a (Obj.mapSeq λ_=>(#[]:Array Value))).push {cls:=.type "tuple",data:=.seq vs.toArray.toList.toArray}).push {cls:=.type "list",data:=.seq ([]:List Value).toArray}=h3;have ho3:h3.get? a=some (seqObj "list" #[] e1):=by rw [<-hh];exact Heap.get?_push_of_some _ (Heap.get?_push_of_some _ ho1)
 have k3:∀b o,b≠a->s.heap.get? b=some o->h3.get? b=some o:=λb o hb q=>by rw [<-hh];exact Heap.get?_push_of_some _ (Heap.get?_push_of_some _ (s1.extBut b o hb q))
 refine wpAny_bind (seqEpoch_at (o:=seqObj "list" #[] e1) ?_ rfl ?_)
 ·exact ho3
 have s2:=Heap.SameBut.update h3 a (Obj.mapSeq λ_=>vs.toArray);obtain ⟨c2,hc2⟩:∃c2,(h3.update a (Obj.mapSeq λ_=>vs.toArray)).get? a=some (seqObj "list" vs.toArray c2):=⟨_,get?_update_seq ho3 λ_=>vs.toArray⟩;refine wpAny_bind (listUpdate_at ho3 rfl ?_ (Nat.zero_le _) (by show vs.toArray.size<=_;rw [List.size_toArray,sizeLine_eq];lia));simp only [bne_self_eq_false,Bool.false_eq_true,if_false];exact wpAny_pure (h _ c2 hc2 λb o hb q=>s2.extBut b o hb (k3 b o hb q))
end
theorem ZPZ:bootBuiltins "sorted"=some (.builtin "sorted"):=by decide +kernel
section
variable {X:Cx} {E:XK} {pins:List (Addr×Obj)} {σ:St} {s:Shared} {H:Hp}
theorem Vn (I:Inv X pins σ a.H s) (hk:a.K=X.K) {u:Value} (r:Rep a d v) (ru:RelV v u) (h:d=.tup xs):∃p o vs us n,u=.ref p/\s.heap.get? p=some o/\o.cls=.type "tuple"/\o.data=.seq us n/\Vals vs us.toList/\Reps a xs vs:=by subst h;obtain ⟨p,vs,rfl,hq,rv⟩:=r;cases ru;rw [hk] at hq;obtain ⟨its,rr,⟨o,ho,hc,n,hd⟩,hz⟩:=I.tuple hq;exact ⟨p,o,vs,its.toArray,n,rfl,ho,hc,hd,by simpa using rr,rv⟩
theorem ZKQ (h:isIt d=true):∃i r,d=.tup (.int i::r):=by
 unfold isIt at h;split at h
 ·exact ⟨_,_,rfl⟩
 ·cases h
theorem ZMB (h:V9 d=true):∃i r,d=.tup (.str i::r):=by
 unfold V9 at h;split at h
 ·exact ⟨_,_,rfl⟩
 ·cases h
theorem ZEz (I:Inv X pins σ a.H s) (hk:a.K=X.K):∀{xs:List D} {vs:List V} {us:List Value},Reps a xs vs->Vals vs us->xs.all isIt=true->∃fs,PySem.W.KatTups s.heap us fs/\fs.length=us.length/\∀v∈fs,∃i t,v=.int i t
 | [],vs,us,r,v,h=>by
  cases (show vs= [] from r);cases v
  exact ⟨[],.nil,rfl,λ_ hm=>nomatch hm⟩
 | d::xs,vs,us,r,v,h=>by
  rw [List.all_cons,Bool.and_eq_true] at h;obtain ⟨v0,vr,rfl,e1,r1⟩:=r;cases v with
  | cons q1 v1=>
   obtain ⟨i,rr,rfl⟩:=ZKQ h.1;obtain ⟨p,o,ws,zs,n,rfl,ho,hc,hd,hv,hr⟩:=Vn I hk e1 q1 rfl;obtain ⟨w0,wr,rfl,g1,g2⟩:=hr
   cases (show w0=V.int i from g1)
   obtain ⟨fs,k1,k2,k3⟩:=ZEz I hk r1 v1 h.2;have hz:∃t,zs[0]? =some (.int i t):=by
    cases hz:zs.toList with
    | nil=>rw [hz] at hv;cases hv
    | cons z zr=>
     rw [hz] at hv;cases hv with
     | cons q _=>
      obtain ⟨t,rfl⟩:=q;exact ⟨t,by rw [<-Array.getElem?_toList,hz];rfl⟩
   obtain ⟨t,hz⟩:=hz;refine ⟨.int i t::fs,.cons ho hc hd hz k1,by simp [k2],λv hm=> ?_⟩;rcases List.mem_cons.mp hm with rfl | hm
   ·exact ⟨i,t,rfl⟩
   ·exact k3 v hm
theorem ZHC (I:Inv X pins σ a.H s) (hk:a.K=X.K):∀{xs:List D} {vs:List V} {us:List Value},Reps a xs vs->Vals vs us->xs.all V9=true->∃fs,PySem.W.KatTups s.heap us fs/\fs.length=us.length/\∀v∈fs,∃i t,v=.str i t
 | [],vs,us,r,v,h=>by
  cases (show vs= [] from r);cases v
  exact ⟨[],.nil,rfl,λ_ hm=>nomatch hm⟩
 | d::xs,vs,us,r,v,h=>by
  rw [List.all_cons,Bool.and_eq_true] at h;obtain ⟨v0,vr,rfl,e1,r1⟩:=r;cases v with
  | cons q1 v1=>
   obtain ⟨i,rr,rfl⟩:=ZMB h.1;obtain ⟨p,o,ws,zs,n,rfl,ho,hc,hd,hv,hr⟩:=Vn I hk e1 q1 rfl;obtain ⟨w0,wr,rfl,g1,g2⟩:=hr
   cases (show w0=V.str i from g1)
   obtain ⟨fs,k1,k2,k3⟩:=ZHC I hk r1 v1 h.2;have hz:∃t,zs[0]? =some (.str i t):=by
    cases hz:zs.toList with
    | nil=>rw [hz] at hv;cases hv
    | cons z zr=>
     rw [hz] at hv;cases hv with
     | cons q _=>
      obtain ⟨t,rfl⟩:=q;exact ⟨t,by rw [<-Array.getElem?_toList,hz];rfl⟩
   obtain ⟨t,hz⟩:=hz;refine ⟨.str i t::fs,.cons ho hc hd hz k1,by simp [k2],λv hm=> ?_⟩;rcases List.mem_cons.mp hm with rfl | hm
   ·exact ⟨i,t,rfl⟩
   ·exact k3 v hm
theorem ZE9 {ws:List V} {us:List Value} {Q:VK} {h2:Heap} {c:Nat} (I:Inv X pins σ a.H s) (sm:Sim a G) (q:out E a (.ok (.ref G.length) (G++ [.lst ys])) Q) (r:Reps a ys ws) (v:Vals ws us) (hz:us.length < 64)
  (hD:h2.get? (s.heap.objs.size + 1)=some (seqObj "list" us.toArray c)) (k:∀b o,b≠X.env.locals->s.heap.get? b=some o->h2.get? b=some o) (ns:∀m,s.heap.Ns X.env.locals m->h2.Ns X.env.locals m):
  EP X pins σ Q (.ref (s.heap.objs.size + 1)) {s with heap:=h2}:=by
 have hle:s.heap.objs.size<=s.heap.objs.size + 1:=Nat.le_succ _;obtain ⟨g0,g1,g2,g3,g4,g5⟩:=I.K1 (H':=a.H) hle (I.hok.fresh hle);have I2:Inv X pins σ a.H {s with heap:=h2}:=ZGK (t':=s.toks) I k ns;refine ⟨.ref (s.heap.objs.size + 1),_,ZA2 I2 g0 (Nat.le_trans I.sz hle) g1 g4 g5 (o:=.lst ws) ⟨?_,us,c,v,hD⟩,rfl,Ls sm r q _ g0⟩;rw [v.length,sizeLine_eq];lia
end
section
variable {X:Cx} {E:XK}
theorem ZPj (h:Qo xs=true) {x y:D} (hx:x∈xs) (hy:y∈xs):∃k,ltD x y=some k:=by unfold Qo at h;rw [Bool.and_eq_true] at h;exact Option.isSome_iff_exists.mp (List.all_eq_true.mp (List.all_eq_true.mp h.2 x hx) y hy)
theorem ZLY {x y:D} {k:Bool} (h:ltD x y=some k):∃xs ys,x=.tup xs/\y=.tup ys/\ltL xs ys=some k:=by
 unfold ltD at h;split at h
 ·exact ⟨_,_,rfl,rfl,h⟩
 ·cases h
theorem ZDL (r:Reps a xs vs):∀l:List Nat,(∀i∈l,i < xs.length)->Reps a (l.map λi=>xs.getD i .non) (l.map λi=>vs.getD i .non)
 | [],_=>rfl
 | i::l,h=>by
  have hi:i < xs.length:=h i List.mem_cons_self;obtain ⟨v,ev,rv⟩:=r.get (i:=i) (d:=xs[i]) (List.getElem?_eq_getElem hi);refine ⟨vs.getD i .non,_,rfl,?_,ZDL r l λj hj=>h j (List.mem_cons_of_mem _ hj)⟩;have e1:xs.getD i .non=xs[i]:=by simp [hi]
  have e2:vs.getD i .non=v:=by rw [List.getD_eq_getElem?_getD,ev];rfl
  show Rep a (xs.getD i .non) (vs.getD i .non);rw [e1,e2];exact rv
theorem ZEo {us:List Value} (r:Vals vs us):∀l:List Nat,(∀i∈l,i < vs.length)->Vals (l.map λi=>vs.getD i .non) (l.map λi=>us.getD i .none)
 | [],_=>.nil
 | i::l,h=>by
  have hi:i < vs.length:=h i List.mem_cons_self;obtain ⟨u,eu,ru⟩:=r.get (i:=i) (x:=vs[i]) (List.getElem?_eq_getElem hi);rw [List.map_cons,List.map_cons];have e1:vs.getD i .non=vs[i]:=by simp [hi]
  have e2:us.getD i .none=u:=by rw [List.getD_eq_getElem?_getD,eu];rfl
  rw [e1,e2];exact .cons ru (ZEo r l λj hj=>h j (List.mem_cons_of_mem _ hj))
theorem ZHm {n:Nat} {lt:Nat->Nat->Bool} {P:Array Nat->Prop}:∀{t:PySem.W.KasT (Array Nat)},Safe n P t->P (Cp lt t)
 | .ret _,h=>h
 | .ask i j k,h=>ZHm (t:=k (lt i j)) (h.2.2 (lt i j))
theorem ZGd {n:Nat}:∀f {p:Array Nat} k,Ents n p->Safe n (Ents n) (PySem.W.kas_bin f p k)
 | 0,p,k,h=>h
 | f + 1,p,k,h=>Safe.bind (P:=λ_=>True) (λa _=>ZGd f _ (h.perm (bubble_perm ..))) (Vm h k _ _ _)
theorem ZGr {n:Nat} (hn:0 < n):Safe n (Ents n) (PySem.W.kas_sort n):=
 Safe.bind (P:=λr=>Ents n r.2) (λa ha=>by
  split
  ·exact ZGd _ _ ha
  ·exact ha) (ZFX ⟨hn,Array.Perm.refl _⟩ _)
theorem ZIl:CallR X (.builtin "sorted") (lRn X.K E Rm):=by
 intro pins s σ H vs us Q I rs h;obtain ⟨a,G,ds,hk,rfl,sm,r,q⟩:=h;unfold Rm at q;split at q
 ·rename_i d;obtain ⟨v,rfl,rv⟩:=reps1 r;split at q
  ·rename_i xs hs;split at q
   ·rename_i hc;obtain ⟨p,ws,rfl,h1,r1⟩:=R4 sm rv hs;rw [hk] at h1;obtain ⟨u,rfl,ru⟩:=vals1 rs;cases ru;obtain ⟨its,hv,pl,hz⟩:=I.list h1;have hlx:xs.length=its.length:=r1.length.trans hv.length;refine ZLR pl.isList (by lia) λh1 hD k1=> ?_
    obtain ⟨m,hn,_⟩:=id I.loc;have hns1:h1.Ns X.env.locals m:=hn.keeps k1;have hDL:s.heap.objs.size + 1≠X.env.locals:=Nat.ne_of_gt (Nat.lt_succ_of_lt I.lt);have nsAll:∀{h2:Heap},h2.Ns X.env.locals m->∀m',s.heap.Ns X.env.locals m'->h2.Ns X.env.locals m':=λ{h2} hh m' hm'=>by have e1:=hn.eq_nsMap;have e2:=hm'.eq_nsMap;rw [e2,<-e1];exact hh
    by_cases hlen:xs.length < 2
    ·refine ZPe (s:={s with heap:=h1}) hD (by lia) λh2 c hD2 k2=>⟨rfl,?_⟩
     have es:M7 xs=xs:=by unfold M7;rw [if_pos hlen]
     rw [es] at q;refine ZE9 I sm q r1 hv (by lia) hD2 (λb o hb e=>k2 b o ?_ (k1 b o e)) (nsAll (hns1.at λo e=>k2 _ o (Ne.symm hDL) e));exact Nat.ne_of_lt (Nat.lt_succ_of_lt (Heap.lt_size e))
    ·have es:M7 xs=(Cp (ltI xs) (PySem.W.kas_sort xs.length)).toList.map λi=>xs.getD i .non:=by unfold M7;rw [if_neg hlen]
     rw [es] at q;refine PySem.W.kat_list_sort (s:={s with heap:=h1}) (Att.ZKb hns1) (news:=Att.ledger h1 X.env.locals (s.heap.objs.size + 1)) ?_ hD hDL (Att.Z4 _ _) (λ⟨_,_⟩ hp=>(Att.Rv.mp hp).2.1) (by lia) (by lia) λe1 h2 F2 N2=> ?_
     ·rintro ⟨b,o⟩ hp;obtain ⟨n1,n2,e⟩:=Att.Rv.mp hp;exact ⟨e,n1,Att.Z4 _ _⟩
     have k2:∀b o,b≠X.env.locals->s.heap.get? b=some o->h2.get? b=some o:=λb o hb e=>
      (N2 (b,o) (List.mem_cons_of_mem _ (Att.Rv.mpr ⟨hb,Nat.ne_of_lt (Nat.lt_succ_of_lt (Heap.lt_size e)),k1 b o e⟩))).1
     have I2:Inv X pins σ a.H {s with heap:=h2}:=ZGK (t':=s.toks) I k2 (nsAll F2.ns);have hpos:0 < its.length:=by lia
     have fin:(PySem.W.kas_sort its.length).kasWp (PySem.W.kas_ask X.prog X.w X.A.in1.in1 (tuples' true) its) (λp s''=>PySem.W.KasFin (Att.Ul h1) X.env.locals m (s.heap.objs.size + 1) e1 (p.toList.map λi=>its.getD i Value.none) (λs3=>PySem.Fin.done (.ret .none)=PySem.Fin.done (.ret .none)/\EP X pins σ Q (.ref (s.heap.objs.size + 1)) s3) s'') {s with heap:=h2}:=by
      refine ZG3 (lt:=ltI xs) (λi j hi hj C hC=> ?_) (ZGr hpos) ?_
      ·have hxi:i < xs.length:=by lia
       have hxj:j < xs.length:=by lia
       obtain ⟨v1,ev1,rv1⟩:=r1.get (i:=i) (d:=xs[i]) (List.getElem?_eq_getElem hxi);obtain ⟨v2,ev2,rv2⟩:=r1.get (i:=j) (d:=xs[j]) (List.getElem?_eq_getElem hxj);obtain ⟨u1,eu1,ru1⟩:=hv.get ev1;obtain ⟨u2,eu2,ru2⟩:=hv.get ev2;obtain ⟨k,hlt⟩:=ZPj hc.2 (List.getElem_mem hxi) (List.getElem_mem hxj);obtain ⟨as,bs,ea,eb,hlL⟩:=ZLY hlt;obtain ⟨p1,o1,vs1,us1,n1,rfl,ho1,_,hd1,hv1,hr1⟩:=Vn I2 hk rv1 ru1 ea;obtain ⟨p2,o2,vs2,us2,n2,rfl,ho2,_,hd2,hv2,hr2⟩:=Vn I2 hk rv2 ru2 eb
       have hC':C k {s with heap:=h2}:=by
        have:ltI xs i j=k:=by
         unfold ltI;have e1:xs.getD i .non=xs[i]:=by simp [hxi]
         have e2:xs.getD j .non=xs[j]:=by simp [hxj]
         rw [e1,e2,hlt];rfl
        rw [<-this];exact hC
       unfold PySem.W.kas_ask;have g1:its.getD i Value.none=.ref p1:=by rw [List.getD_eq_getElem?_getD,eu1];rfl
       have g2:its.getD j Value.none=.ref p2:=by rw [List.getD_eq_getElem?_getD,eu2];rfl
       rw [g1,g2];exact PySem.W.kat_lt ho1 hd1 ho2 hd2 (Zh hr1 hr2 hv1 hv2 hlL (by simp) hC')
      ·have hen:Ents its.length (Cp (ltI xs) (PySem.W.kas_sort its.length)):=ZHm (ZGr hpos);rw [hlx] at q;refine PySem.W.KasFin.intro F2 N2 (.head λ⟨_,_⟩ hp=>(Att.Rv.mp hp).2.1) λh3 c F3 N3=>⟨rfl,?_⟩
       have hin:∀i∈(Cp (ltI xs) (PySem.W.kas_sort its.length)).toList,i < its.length:=λi hi=>hen.lt (by simpa using hi)
       refine ZE9 I sm q (ZDL r1 _ λi hi=>by rw [hlx];exact hin i hi) (ZEo hv _ λi hi=>by rw [hv.length];exact hin i hi) ?_ (N3 _ List.mem_cons_self).1 (λb o hb e=> ?_) (nsAll F3.ns)
       ·rw [hlx] at es;have:=hc.1.2;rw [es] at this;simpa using this
       ·exact (N3 (b,o) (List.mem_cons_of_mem _ (Att.Rv.mpr ⟨hb,Nat.ne_of_lt (Nat.lt_succ_of_lt (Heap.lt_size e)),k1 b o e⟩))).1
     unfold Qo at hc;rw [Bool.and_eq_true,Bool.or_eq_true] at hc;rcases hc.2.1 with hall | hall
     ·obtain ⟨fs,t1,t2,t3⟩:=ZEz I2 hk r1 hv hall;refine PySem.W.kat_kind (T:=.type "int") t1 (by lia) (λv hm=> ?_) (by decide) ?_
      ·obtain ⟨i,t,rfl⟩:=t3 v hm;exact PySem.W.Looks.now
      ·exact fin
     ·obtain ⟨fs,t1,t2,t3⟩:=ZHC I2 hk r1 hv hall;refine PySem.W.kat_kind (T:=.type "str") t1 (by lia) (λv hm=> ?_) (by decide) ?_
      ·obtain ⟨i,t,rfl⟩:=t3 v hm;exact PySem.W.Looks.now
      ·exact fin
   ·exact q.elim
  ·exact q.elim
 ·exact q.elim
end
section
variable {S:DSt} {G:DH}
@[simp] theorem ZQZ {to ti:DE} {f:D->D->DH->R D}:Qq to ti te f S G=(to S G).toS λo G1=>(ti S G1).toS λi G2=>(ixL o i G2).toS λx G3=>(te S G3).toS λy G4=>(f x y G4).toS λz G5=>(Mp o i z G5).toS λ_ G6=>.nx S G6:=id rfl
theorem Xi {p:Nat} {k:Int} (h:G[p]? =some (.lst xs)) (e:atI xs k=some d):ixL (.ref p) (.int k) G=.ok d G:=by unfold ixL;simp only;rw [h];simp only;rw [e]
noncomputable def Ef (xs:List D):List D:=xs.zipIdx.map λq=>.tup [.int q.2,q.1]
noncomputable def Ow (xs ys:List D):List D:=(xs.zip ys).map λq=>.tup [q.1,q.2]
theorem ZG9 {f:Nat->DH->Option (Option D)} {b:DS} (h:∀j G,f j G=some xs[j]?):∀(n j:Nat),j + n=xs.length->∀S G,Ei f g b n j S G=Bh g b (xs.drop j) S G
 | 0,j,e,S,G=>by
  unfold Ei;rw [h,List.getElem?_eq_none (by lia),List.drop_of_length_le (by lia)]
  rfl
 | n + 1,j,e,S,G=>by
  have hj:j < xs.length:=by lia
  unfold Ei;rw [h,List.getElem?_eq_getElem hj,List.drop_eq_getElem_cons hj,Dk];have:Ei f g b n (j + 1)=Bh g b (xs.drop (j + 1)):=by funext S G;exact ZG9 h n (j + 1) (by lia) S G
  rw [this]
theorem Rr {f:Nat->DH->Option (Option D)} {b:DS} {n:Nat} (h:∀j G,f j G=some xs[j]?) (hn:n=xs.length):Ei f g b n 0 S G=Bh g b xs S G:=by rw [ZG9 h n 0 (by lia)];rfl
theorem W9 (j:Nat) (G:DH):Er 0 (.fl xs) j G=some (Ef xs)[j]? :=by
 unfold Er Ef;simp only [Cd,List.getElem?_map,List.getElem?_zipIdx]
 cases xs[j]? <;> simp
theorem ZKK (j:Nat) (G:DH):Er 0 (.tup xs) j G=some (Ef xs)[j]? :=by
 unfold Er Ef;simp only [Cd,List.getElem?_map,List.getElem?_zipIdx]
 cases xs[j]? <;> simp
theorem Ke:(Ef xs).length=xs.length:=by simp [Ef]
@[simp] theorem ZQE:Iz [.fl xs] G=.ok (.fn xs.length (Er 0 (.fl xs))) G:=by simp [Iz,Lf,Cd,lenOf]
@[simp] theorem ZJ2 {b:DS} :Ei (Er 0 (.fl xs)) g b xs.length 0 S G=Bh g b (Ef xs) S G:=Rr W9 Ke.symm
@[simp] theorem ZQy {b:DS} :Ei (Er 0 (.tup xs)) g b xs.length 0 S G=Bh g b (Ef xs) S G:=Rr ZKK Ke.symm
theorem ZDJ {f:Nat->DH->Option (Option D)} {c:DB} {F:D->Option D} (hf:∀j,f j G=some xs[j]?) (h:∀x∈xs,CStep g c te S G x (F x)):
  ∀(n j:Nat),xs.length<=j + n->Ec f g c te S n j G=.ok ((xs.drop j).filterMap F) G
 | 0,j,hj=>by
  unfold Ec;rw [hf,List.getElem?_eq_none (by lia)];simp only;rw [List.drop_of_length_le (by lia)]
  rfl
 | n + 1,j,hj=>by
  unfold Ec;rw [hf];by_cases hlt:j < xs.length
  ·have ih:=ZDJ hf h n (j + 1) (by lia);obtain ⟨S1,h1,h2⟩:=h xs[j] (List.getElem_mem hlt);rw [List.getElem?_eq_getElem hlt];simp only [h1,R.Kv];rw [List.drop_eq_getElem_cons hlt,List.filterMap_cons];rcases h2 with ⟨h2,h3⟩ | ⟨h2,d,h3,h4⟩
   ·simp [h2,h3,ih]
   ·simp [h2,h3,h4,ih]
  ·rw [List.getElem?_eq_none (by lia),List.drop_of_length_le (by lia)]
   rfl
theorem Vs {f:Nat->DH->Option (Option D)} {c:DB} {F:D->Option D} {n:Nat} (hf:∀j,f j G=some xs[j]?) (h:∀x∈xs,CStep g c te S G x (F x)) (hn:xs.length<=n):
  Ec f g c te S n 0 G=.ok (xs.filterMap F) G:=ZDJ hf h n 0 (by lia)
theorem ZHH {e:D} (hd:Cd d G=some xs) (he:Cd e G=some ys) (j:Nat):Hw [d,e] j G=some (Ow xs ys)[j]? :=by
 unfold Hw Ow;simp only [Ip,hd,he,List.getElem?_map,List.getElem?_zip_eq_some]
 have ez:(xs.zip ys)[j]? =match xs[j]?,ys[j]? with
  | some x,some y=>some (x,y)
  | _,_=>none:=by
  rw [List.zip,List.getElem?_zipWith]
  cases xs[j]? <;> cases ys[j]? <;> rfl
 rw [ez];cases xs[j]? with
 | none=>rfl
 | some x=>
  cases ys[j]? with
  | none=>rfl
  | some y=>rfl
theorem ZFT {e:D} (hd:Cd d G=some xs) (he:Cd e G=some ys):J7 2 [d,e] G=.ok (.fn xs.length (Hw [d,e])) G:=by simp [J7,Lf,hd,he,lenOf]
@[simp] theorem ZDn:Cd (.fl xs) G=some xs:=id rfl
@[simp] theorem Wz:Cd (.tup xs) G=some xs:=id rfl
theorem ZKX {i:Nat} (h:G[i]? =some (.lst xs)):Cd (.ref i) G=some xs:=by simp [Cd,h]
theorem ZLk {n:Int} {ns:List Int} (h:Cd d G=some ((n::ns).map D.int)):Ol [d] G=.ok (.int (ns.foldl min n)) G:=by simp only [Ol,h,ZCE]
theorem ZNq {n:Int} {ns:List Int} (h:Cd d G=some ((n::ns).map D.int)):Pk [d] G=.ok (.int (ns.foldl max n)) G:=by simp only [Pk,h,ZCE]
theorem ZFo {p:Nat} (h:G[p]? =some (.lst [d])) (hk:k<=1000000):Kg (.ref p) (.int (k:Int)) G=.ok (.ref G.length) (G++ [.lst (List.replicate k d)]):=by
 unfold Kg;simp only;rw [h];simp only;have e:(List.replicate k [d]).flatten=List.replicate k d:=by
  induction k with
  | zero=>rfl
  | succ k ih=>rw [List.replicate_succ,List.flatten_cons,ih (by lia),List.replicate_succ];rfl
 rw [if_pos ⟨by lia,by lia,by simpa using hk⟩,Int.toNat_natCast,e]
end
noncomputable def Bts (i:Int):Prop:=i.natAbs.log2 < 33554432
noncomputable def MulB (i j:Int):Prop:=CMul i j∨(Bts i/\Bts j)
noncomputable instance (i:Int):Decidable (Bts i):=by unfold Bts;infer_instance
noncomputable instance (i j:Int):Decidable (MulB i j):=by unfold MulB;infer_instance
theorem MulB.ok {i j:Int} (h:MulB i j):IntMulOk i j:=by
 rcases h with h | ⟨h1,h2⟩
 ·exact h.ok
 ·have b:∀k:Int,Bts k->Builtin.Int.intBits k<=33554432:=λk hk=>by
   unfold Builtin.Int.intBits;split
   ·exact Nat.zero_le _
   ·exact hk
  have c1:=b i h1;have c2:=b j h2;have h:Builtin.Int.intTooBig (Builtin.Int.intBits i + Builtin.Int.intBits j)=false:=by unfold Builtin.Int.intTooBig bitsLine;exact decide_eq_false (by lia)
  unfold IntMulOk;rw [h];simp
section
variable {X:Cx} {E:XK}
theorem ZJA:OpR X (binaryOp .Mult) (rI MulB λi j=>.int (i * j)):=opI λ_ _ _ _ _ _ _ hc q=>mul_int q hc.ok
end
section
variable {i j:Int} {G:DH}
end
section
variable {X:Cx} {E:XK}
end
noncomputable def Hm (f:Str) (v:D):List (Str×D)->List (Str×D)
 | []=> [(f,v)]
 | (g,x)::r=>if g=f then (g,v)::r else (g,x)::Hm f v r
theorem RepF.mono {b:Wd} (x:Ext a b) {fs:List (Str×D)} (h:RepF a fs us):RepF b fs us:=⟨h.1,h.2.mono x⟩
theorem RepF.cons {g:Str} {fs:List (Str×D)} (h:Rep a d v) (r:RepF a fs us):RepF a ((g,d)::fs) ((g,v)::us):=
 ⟨by simp [r.1],v,us.map (·.2),rfl,h,r.2⟩
theorem RepF.uncons {g:Str} {fs:List (Str×D)} (h:RepF a ((g,d)::fs) us):∃v us',us=(g,v)::us'/\Rep a d v/\RepF a fs us':=by
 obtain ⟨h1,h2⟩:=h;cases us with
 | nil=>simp at h1
 | cons q us=>
  obtain ⟨g',y⟩:=q;simp only [List.map_cons,List.cons.injEq] at h1;obtain ⟨rfl,h1⟩:=h1;obtain ⟨v,r,e1,r1,r2⟩:=h2;simp only [List.map_cons,List.cons.injEq] at e1;obtain ⟨rfl,rfl⟩:=e1;exact ⟨y,us,rfl,r1,h1,r2⟩
theorem RepF.nil' (h:RepF a [] us):us= []:=by
 obtain ⟨h1,_⟩:=h;cases us with
 | nil=>rfl
 | cons q us=>simp at h1
theorem lkc {α:Type} {f g:Str} {x:α} {fs:List (Str×α)}:List.lookup f ((g,x)::fs)=if (f == g)=true then some x else fs.lookup f:=by
 show (match f == g with
  | true=>some x
  | false=>List.lookup f fs)=_
 cases f == g <;> rfl
theorem RepF.look {f:Str} :∀{fs:List (Str×D)} {us:List (Str×V)},RepF a fs us->fs.lookup f=some d->∃u,us.lookup f=some u/\Rep a d u
 | [],us,h,e=>by simp at e
 | (g,x)::fs,us,h,e=>by
  obtain ⟨v,us',rfl,hv,hr⟩:=h.uncons;rw [lkc] at e ⊢;by_cases q:(f == g)=true
  ·rw [if_pos q] at e ⊢;cases e;exact ⟨v,rfl,hv⟩
  ·rw [if_neg q] at e ⊢;exact RepF.look hr e
theorem RepF.ZBr {f:Str}:∀{fs:List (Str×D)} {us:List (Str×V)},RepF a fs us->fs.lookup f=none->us.lookup f=none
 | [],us,h,e=>by rw [h.nil'];rfl
 | (g,x)::fs,us,h,e=>by
  obtain ⟨v,us',rfl,hv,hr⟩:=h.uncons;rw [lkc] at e ⊢;by_cases q:(f == g)=true
  ·rw [if_pos q] at e;cases e
  ·rw [if_neg q] at e ⊢;exact RepF.ZBr hr e
theorem RepF.put {f:Str} (q:Rep a d v):∀{fs:List (Str×D)} {us:List (Str×V)},RepF a fs us->RepF a (Hm f d fs) (Fl f v us)
 | [],us,h=>by rw [h.nil'];exact RepF.cons (fs:= []) (us:= []) q ⟨rfl,rfl⟩
 | (g,x)::fs,us,h=>by
  obtain ⟨w,us',rfl,hv,hr⟩:=h.uncons;unfold Hm Fl;by_cases e:g=f
  ·rw [if_pos e,if_pos e];exact .cons q hr
  ·rw [if_neg e,if_neg e];exact .cons hv (RepF.put q hr)
theorem RepF.len {fs:List (Str×D)} (h:RepF a fs us):us.length=fs.length:=by have:=congrArg List.length h.1;simpa using this.symm
theorem Ext.wrI {p C dx:Addr} {ho:HO} (h:a.H p=some (.ins C dx us)):Ext a (a.put p ho):=
 ⟨rfl,Nat.le_refl _,λ_ _=>rfl,λq xs e=>by
  show upd a.H p ho q=_;rw [Bc (λz=>by subst z;rw [h] at e;cases e)];exact e,λq o u e=>by
  show upd a.H p ho q=_;rw [Bc (λz=>by subst z;rw [h] at e;cases e)];exact e,λ_ t=>t.mono (λq ps e=>by show upd a.H p ho q=_;rw [Bc (λz=>by subst z;rw [h] at e;cases e)];exact e) (λq o u e=>by show upd a.H p ho q=_;rw [Bc (λz=>by subst z;rw [h] at e;cases e)];exact e)⟩
theorem Sim.wrI (s:Sim a G) {i:Nat} (hi:i < a.n) {c:Str} {C dx:Addr} {us':List (Str×V)} {fs':List (Str×D)} (hn:PySem.W.nsIn a.K mainGlobals c=some (some (.ref C))) (h:a.H (a.m i)=some (.ins C dx us)) (r:RepF (a.put (a.m i) (.ins C dx us')) fs' us'):
  Sim (a.put (a.m i) (.ins C dx us')) (G.set i (.ins c fs')):=by
 refine ⟨by rw [List.length_set];exact s.len,s.inj,λj o e=> ?_,λj hj=> ?_⟩
 ·rw [List.getElem?_set] at e;show ORep _ o (upd a.H (a.m i) (.ins C dx us') (a.m j));by_cases hij:i=j
  ·subst hij;rw [if_pos rfl,if_pos (by rw [s.len];exact hi)] at e;cases e;rw [Gk];exact ⟨C,dx,us',hn,rfl,r⟩
  ·rw [if_neg hij] at e;rw [Bc λz=>hij (s.inj _ _ (s.lt e) hi z).symm];exact (s.obj j o e).mono (Ext.wrI h)
 ·show upd a.H (a.m i) (.ins C dx us') (a.m j)≠none;by_cases hij:a.m j=a.m i
  ·rw [hij,Gk];simp
  ·rw [Bc hij];exact s.tr j hj
noncomputable def K7 (c:Str) (d:D) (G:DH):Option (List (Str×D)):=match d with
 | .ref i=>match G[i]? with
  | some (.ins c' fs)=>if c'=c then some fs else none
  | _=>none
 | _=>none
theorem Sim.ins {x:V} {c:Str} {fs:List (Str×D)} (s:Sim a G) (r:Rep a d x) (h:K7 c d G=some fs):
  ∃i C dx us,d=.ref i/\i < a.n/\x=.ref (a.m i)/\G[i]? =some (.ins c fs)/\PySem.W.nsIn a.K mainGlobals c=some (some (.ref C))/\a.H (a.m i)=some (.ins C dx us)/\RepF a fs us:=by
 unfold K7 at h;split at h
 ·rename_i i;split at h
  ·rename_i c' fs' e;split at h
   ·rename_i hc;subst hc;cases h;obtain ⟨l,ev⟩:=r;obtain ⟨C,dx,us,n,e1,r1⟩:=s.obj i _ e;exact ⟨i,C,dx,us,rfl,l,ev,e,n,e1,r1⟩
   ·cases h
  ·cases h
 ·cases h
noncomputable def Ex (c:Str) (t:DE) (f:Str):DE:=λS G=>(t S G).bind λd G1=>match K7 c d G1 with
 | some fs=>match fs.lookup f with
  | some v=>.ok v G1
  | none=>.bad
 | none=>.bad
noncomputable def Gw (c:Str) (to tv:DE) (f:Str):DS:=λS G=>(tv S G).toS λd G1=>(to S G1).toS λo G2=>match o with
 | .ref i=>match K7 c o G2 with
  | some fs=>if fs.length < 1000 then .nx S (G2.set i (.ins c (Hm f d fs))) else .bad
  | none=>.bad
 | _=>.bad
noncomputable def J0 (c:Str) (m:Str) (F:List D->DH->R D) (to:DE) (t:DA):DE:=λS G=>(to S G).bind λo G1=>match K7 c o G1 with
 | some fs=>match fs.lookup m with
  | none=>(t S G1).bind λds G2=>F (o::ds) G2
  | some _=>.bad
 | none=>.bad
noncomputable def ZAK (c:Str) (F:List D->DH->R D) (t:DA):DE:=λS G=>(t S G).bind λds G1=>(F (.ref G1.length::ds) (G1++ [.ins c []])).bind λv G2=>match v with
 | .non=>.ok (.ref G1.length) G2
 | _=>.bad
section
variable {X:Cx} {E:XK} {c f m:Str} {C:Addr} {e o:Expr} {es:List Expr} {t ta tv:DE} {tr:DA} {pos apos pos':Pos}
theorem Fq (hn:PySem.W.nsIn X.K mainGlobals c=some (some (.ref C))) (hc:Cls X.K C) (hf:NoAttr X.K C f) (ha:QE X E e t) (hb:attributeBase e f X.env (eval e X.env)=eval e X.env:=by rfl):QE X E (.Attribute e f pos) (Ex c t f):=
 (ZOL ha hb).mono λσ H Q h=>by
  obtain ⟨a,S,G,hk,rfl,s,r,h⟩:=h;refine ⟨a,S,G,hk,rfl,s,r,(Gh h).imp ?_⟩;rintro v _ ⟨b,d,G1,rfl,x,s1,q,-,h1⟩;split at h1
  ·rename_i fs hi;obtain ⟨i,C',dx,us,rfl,_,rfl,_,n',e1,r1⟩:=s1.ins q hi;have hCC:C'=C:=by
    rw [x.k,hk,hn] at n';cases n'
    rfl
   subst hCC;split at h1
   ·rename_i d' hd;obtain ⟨u,eu,ru⟩:=r1.look hd;exact ⟨b.m i,C',dx,us,u,rfl,e1,hc,hf,eu,h1 b u (Ext.refl b) s1 ru⟩
   ·exact h1.elim
  ·exact h1.elim
theorem Nb (hn:PySem.W.nsIn X.K mainGlobals c=some (some (.ref C))) (hc:Cls X.K C) (hf:NoAttr X.K C f) (ha:QE X E o ta) (hv:QE X E e tv) (hs:swapsWith e (some (.Attribute o f pos')) pos.line X.env=pure false:=by rfl):
  QS X E (.Assign [.Attribute o f pos'] e pos) (Gw c ta tv f):=
 (ZMf ha hv hs).mono λW σ H h=>by
  obtain ⟨a,S,G,hk,rfl,s,r,h⟩:=h;refine ⟨a,S,G,hk,rfl,s,r,(Iw h).imp ?_⟩;rintro v _ ⟨b,d,G1,rfl,x,s1,q,-,h1⟩;refine ⟨b,S,G1,x.k.trans hk,rfl,s1,r.mono x,(Iw h1).imp ?_⟩;rintro v2 _ ⟨b2,d2,G2,rfl,x2,s2,q2,-,h2⟩;split at h2
  ·rename_i i;split at h2
   ·rename_i fs hi;split at h2
    ·rename_i hl;obtain ⟨i',C',dx,us,ei,li,rfl,eg,n',e1,r1⟩:=s2.ins q2 hi;cases ei;have hCC:C'=C:=by
      rw [x2.k,x.k,hk,hn] at n';cases n'
      rfl
     subst hCC;have x3:Ext b2 (b2.put (b2.m i) (.ins C' dx (Fl f v us))):=Ext.wrI e1;have s3:=s2.wrI (fs':=Hm f d fs) li n' e1 (RepF.put ((q.mono x2).mono x3) (r1.mono x3));exact ⟨b2.m i,C',dx,us,rfl,e1,hc,hf,by rw [r1.len];exact hl,h2 _ σ x3 s3 (((r.mono x).mono x2).mono x3)⟩
    ·exact h2.elim
   ·exact h2.elim
  ·exact h2.elim
theorem ZJa {sp:List D->DH->R D} {σ:St} {H:Hp} {Q:VK} (hn:PySem.W.nsIn X.K mainGlobals c=some (some (.ref C))) (h:lE X.K E (J0 c m F ta tr) σ H Q):ZCD C m (lF X.K F) [] E (lE X.K E ta) (lA X.K E tr) σ H Q:=by
 obtain ⟨a,S,G,hk,rfl,s,r,h⟩:=h;refine ⟨a,S,G,hk,rfl,s,r,(Gh h).imp ?_⟩;rintro v _ ⟨b,d,G1,rfl,x,s1,q,-,h1⟩;split at h1
 ·rename_i fs hi;obtain ⟨i,C',dx,us,rfl,_,rfl,_,n',e1,r1⟩:=s1.ins q hi;have hCC:C'=C:=by
   rw [x.k,hk,hn] at n';cases n'
   rfl
  subst hCC;split at h1
  ·rename_i hm;refine ⟨b.m i,dx,us,rfl,e1,r1.ZBr hm,b,S,G1,x.k.trans hk,rfl,s1,r.mono x,(Np h1).imp ?_⟩;rintro vs _ ⟨b2,ds,G2,rfl,x2,s2,q2,-,h2⟩;exact ⟨b2,G2,.ref i::ds,(x2.k.trans x.k).trans hk,rfl,s2,⟨.ref (b.m i),vs,by rw [List.append_nil],q.mono x2,q2⟩,h2⟩
  ·exact h1.elim
 ·exact h1.elim
theorem Ov {g:Addr} {pl:Sem Bool} (hn:PySem.W.nsIn X.K mainGlobals c=some (some (.ref C))) (hc:Cls X.K C) (hm:Meth X.K C m g) (FF:FnOk X.prog X.w X.K X.mg X.base CX k g fd ps (lF X.K F)) (hr:Room k X.A) (hb:Binds X.K fd ps [])
  (hx:Passes CX X E) (ho:QE X E o ta) (ha:QA X E (e::es) tr) (he:notStar e=true:=by rfl) (hpl:es.all notStar=true:=by rfl)
  (ht:eval (.Call (.Attribute o m apos) (e::es) [] pos) X.env=(do
   let ov<-eval o X.env
   standAt apos.atName
   let (f,first)<-holding [ov] (getMethod ov m pl)
   callWith pos f first (backTo pos (starEach (e::es) X.env)) (backToKw pos (keywordEach [] X.env))):=by rfl):QE X E (.Call (.Attribute o m apos) (e::es) [] pos) (J0 c m F ta tr):=
 (ZNz (pl:=pl) ho hc hm FF hr hb .nil hx ha (Nf e es X.env he) (Pq pos X.env es hpl) ht).mono λσ H Q h=>ZJa (sp:=F) hn h
theorem ZG0 {g:Addr} {pl:Sem Bool} (hn:PySem.W.nsIn X.K mainGlobals c=some (some (.ref C))) (hc:Cls X.K C) (hm:Meth X.K C m g) (FF:FnOk X.prog X.w X.K X.mg X.base CX k g fd ps (lF X.K F)) (hr:Room k X.A) (hb:Binds X.K fd ps [])
  (hx:Passes CX X E) (ho:QE X E o ta)
  (ht:eval (.Call (.Attribute o m apos) [] [] pos) X.env=(do
   let ov<-eval o X.env
   standAt apos.atName
   let (f,first)<-holding [ov] (getMethod ov m pl)
   callWith pos f first (backTo pos (starEach [] X.env)) (backToKw pos (keywordEach [] X.env))):=by rfl):QE X E (.Call (.Attribute o m apos) [] [] pos) (J0 c m F ta Ae):=
 (ZLc (pl:=pl) ho hc hm FF hr hb .nil hx ht).mono λσ H Q h=>by
  obtain ⟨a,S,G,hk,rfl,s,r,h⟩:=h;refine ⟨a,S,G,hk,rfl,s,r,(Gh h).imp ?_⟩;rintro v _ ⟨b,d,G1,rfl,x,s1,q,-,h1⟩;split at h1
  ·rename_i fs hi;obtain ⟨i,C',dx,us,rfl,_,rfl,_,n',e1,r1⟩:=s1.ins q hi;have hCC:C'=C:=by
    rw [x.k,hk,hn] at n';cases n'
    rfl
   subst hCC;split at h1
   ·rename_i hm;exact ⟨b.m i,dx,us,rfl,e1,r1.ZBr hm,b,G1,[.ref i],x.k.trans hk,rfl,s1,⟨.ref (b.m i),[],rfl,q,rfl⟩,h1⟩
   ·exact h1.elim
  ·exact h1.elim
theorem ZNr {ds:List D} {Q:VK} (hk:a.K=X.K) (hn:PySem.W.nsIn X.K mainGlobals c=some (some (.ref C))) (s:Sim a G) (q:Reps a ds vs)
  (h:out E a ((F (.ref G.length::ds) (G++ [.ins c []])).bind λv G2=>match v with
   | .non=>.ok (.ref G.length) G2
   | _=>.bad) Q):∀x dx,a.H x=none->a.H dx=none->dx≠x->lF X.K F (.ref x::(vs++ [])) (upd (upd a.H dx (.own x)) x (.ins C dx [])) (λv H2=>v=.non/\Q (.ref x) H2) E:=λp dx hp hdx hne=>by
 have x1:Ext a (a.put dx (.own p)):=Ext.put hdx;have s1:Sim (a.put dx (.own p)) G:=s.put hdx;have hp1:(a.put dx (.own p)).H p=none:=by show upd a.H dx (.own p) p=none;rw [Bc λz=>hne z.symm];exact hp
 have x2:Ext (a.put dx (.own p)) ((a.put dx (.own p)).push p (.ins C dx [])):=Ext.push hp1;have s2:Sim ((a.put dx (.own p)).push p (.ins C dx [])) (G++ [.ins c []]):=s1.push hp1 ⟨C,dx,[],by show PySem.W.nsIn a.K mainGlobals c=_;rw [hk];exact hn,rfl,rfl,rfl⟩;have hgl:G.length=a.n:=s.len;have mnew:((a.put dx (.own p)).push p (.ins C dx [])).m a.n=p:=by show (if a.n=a.n then p else a.m a.n)=p;rw [if_pos rfl]
 have rp:Rep ((a.put dx (.own p)).push p (.ins C dx [])) (.ref G.length) (.ref p):=by rw [hgl];exact ⟨Nat.lt_succ_self _,by rw [mnew]⟩
 refine ⟨(a.put dx (.own p)).push p (.ins C dx []),_,.ref G.length::ds,hk,rfl,s2,⟨.ref p,vs,by rw [List.append_nil],rp,(q.mono x1).mono x2⟩,(Gh (out.mono (x1.trans x2) h)).imp ?_⟩;rintro v _ ⟨b,d,G1,rfl,x3,s3,q3,-,h3⟩;split at h3
 ·have:v=.non:=q3;exact ⟨this,h3 b _ (Ext.refl b) s3 (rp.mono x3)⟩
 ·exact h3.elim
theorem ZJw {g:Addr} {p:Pos} (hn:PySem.W.nsIn X.K mainGlobals c=some (some (.ref C))) (M:Mk X.K C g) (FF:FnOk X.prog X.w X.K X.mg X.base CX k g fd ps (lF X.K F)) (hr:Room (k + 1) X.A) (hg:Gl X c) (hm:X.mg c=some (.ref C)) (hb:Binds X.K fd ps [])
  (hx:Passes CX X E) (ha:QA X E (e::es) tr) (hdb:(c == ("__debug__":Str))=false:=by decide) (he:notStar e=true:=by rfl) (hpl:es.all notStar=true:=by rfl):QE X E (.Call (.Name c p) (e::es) [] pos) (ZAK c F tr):=
 (ZLh M FF hr hg hm hb .nil hx ha hdb (Nf e es X.env he) (Pq pos X.env es hpl)).mono λσ H Q h=>by obtain ⟨a,S,G,hk,rfl,s,r,h⟩:=h;refine ⟨a,S,G,hk,rfl,s,r,(Np h).imp ?_⟩;rintro vs _ ⟨b,ds,G1,rfl,x,s1,q,-,h1⟩;exact ZNr (x.k.trans hk) hn s1 q h1
end
noncomputable def Px (d:D) (ds:List D) (G:DH):R D:=match ds with
 | [.int k]=>match I9 d G with
  | some xs=>match Gx xs with
   | some ns=>if k∈ns/\ns.length<=1000000 then .ok (.int (ns.idxOf k)) G else .bad
   | none=>.bad
  | none=>.bad
 | _=>.bad
theorem ZDg:∀{ns:List Int} {vs:List V},Reps a (ns.map D.int) vs->vs=ns.map V.int
 | [],vs,h=>h
 | n::ns,vs,h=>by
  obtain ⟨v,r,e,h1,h2⟩:=h
  cases (show v=V.int n from h1)
  rw [e,ZDg h2]
  rfl
theorem Ru:∀{ns:List Int} {us:List Value},Vals (ns.map V.int) us->us.length=ns.length/\∀(j:Nat) (u:Value),us[j]? =some u->∃t,∃h:j < ns.length,u=.int ns[j] t
 | [],us,h=>by cases h;exact ⟨rfl,λj u e=>by simp at e⟩
 | n::ns,us,h=>by
  cases h with
  | cons r rr=>
   obtain ⟨h1,h2⟩:=Ru rr;obtain ⟨t,rfl⟩:=r;refine ⟨by simp [h1],λj u e=> ?_⟩;cases j with
   | zero=>simp at e;exact ⟨t,by simp,by simpa using e.symm⟩
   | succ j=>
    obtain ⟨t',hj,e'⟩:=h2 j u (by simpa using e);exact ⟨t',by simpa using hj,by simpa using e'⟩
section
variable {X:Cx} {E:XK}
theorem ZN3:MtM X "list.index" (lRm X.K E Px):=by
 intro pins s σ H x xs v us Q I rx rxs h;obtain ⟨a,G,d,ds,hk,rfl,sm,rd,rds,q⟩:=h;unfold Px at q;split at q
 ·rename_i k;split at q
  ·rename_i ys hy;split at q
   ·rename_i ns hns;split at q
    ·rename_i hk';obtain ⟨hmem,hlen⟩:=hk';obtain ⟨p,vs,rfl,hq,rv⟩:=R4 sm rd hy;rw [T6 hns] at rv;rw [ZDg rv,hk] at hq;cases rx;obtain ⟨v1,rfl,rv1⟩:=reps1 rds
     cases (show v1=V.int k from rv1)
     obtain ⟨u,rfl,ru⟩:=rxs.one;obtain ⟨t,rfl⟩:=ru;obtain ⟨its,rits,⟨o,n,ho,hc,hdi,hd⟩,hz⟩:=I.list hq;obtain ⟨hl1,hl2⟩:=Ru rits;have hlt:ns.idxOf k < ns.length:=List.idxOf_lt_length_of_mem hmem;have hjs:ns.idxOf k < its.toArray.size:=by simpa [hl1] using hlt
     have hob:o={cls:=.type "list",dict:=o.dict,data:=.seq its.toArray n,slots:=o.slots}:=by
      obtain ⟨c1,c2,c3,c4⟩:=o;simp only at hc hd;subst hc;subst hd
      rfl
     rw [hob] at ho
     refine call_meets PySem.F.slot_list_index ⟨_,ho,rfl⟩ PySem.F.entry_list_index (PySem.F.args_list_index_2 _ _) (SeqAt.list_indexAt p its.toArray n o.dict o.slots (.int k t) (λy=>match y with | .int i _=>i == k | _=>false) (ns.idxOf k) hjs (by lia) ?_ ?_) ⟨ho,λy hy=> ?_,?_⟩
     ·have hg:its[ns.idxOf k]? =some its.toArray[ns.idxOf k]:=by simp [List.getElem?_eq_getElem (by simpa [hl1] using hlt:ns.idxOf k < its.length)]
      obtain ⟨t',h3,e3⟩:=hl2 _ _ hg;rw [e3];simp
     ·intro m hm hlt2;have hml:m < its.length:=by simpa using hm
      have hg:its[m]? =some its.toArray[m]:=by simp [List.getElem?_eq_getElem hml]
      obtain ⟨t',h3,e3⟩:=hl2 _ _ hg;rw [e3];have:=List.not_of_lt_findIdx (p:=λx=>x == k) (xs:=ns) hlt2;simpa using this
     ·have hy2:y∈its:=by simpa using hy
      obtain ⟨m,hm,e⟩:=List.getElem_of_mem hy2;obtain ⟨t',h3,e3⟩:=hl2 m y (by rw [List.getElem?_eq_getElem hm,e]);rw [e3];exact SeqAt.EqAt.int_int _ _ _ _
     ·exact ⟨.int (ns.idxOf k),a.H,I.tok _,⟨_,rfl⟩,q a _ (Ext.refl a) sm rfl⟩
    ·exact q.elim
   ·exact q.elim
  ·exact q.elim
 ·exact q.elim
noncomputable def tLR (ta:TA):TE:=λσ H Q=>ta σ H λvs H1=>∃j:Int,vs= [.int j]/\ -(2 ^ 62)<=j/\j<=1000000/\∀l,H1 l=none->Q (.ref l) (upd H1 l (.lst ((List.range j.toNat).map λ(i:Nat)=>V.int (i:Int))))
theorem ZM2 {acc:Array Value} {n:Nat} (h:ItemsOf (λi v=>∃t,v=.int ((0:Int) + i * 1) t) acc n):Vals ((List.range n).map λ(i:Nat)=>V.int (i:Int)) acc.toList:=by
 obtain ⟨h1,h2⟩:=h;refine ZCW (by simp [h1]) λi v u hv hu=> ?_
 have hi:i < n:=by have:=(List.getElem?_eq_some_iff.mp hv).1;simpa using this
 rw [List.getElem?_map,List.getElem?_range hi] at hv;have ev:v=V.int (i:Int):=by simpa using hv.symm
 obtain ⟨t,e⟩:=h2 i u (by rw [<-Array.getElem?_toList];exact hu);subst ev;refine ⟨t,?_⟩;rw [e]
 congr 1
 lia
theorem ZOV {ta:TA} {p p' pos pos':Pos} (hc:X.calm=true) (hg:Gl X "list") (hm:X.mg "list"=none) (hg2:Gl X "range") (hm2:X.mg "range"=none) (ha:PA X [e] ta) (hs:starEach [e] X.env= [(false,eval e X.env)]:=by rfl)
  (hs2:starEach [.Call (.Name "range" p') [e] [] pos'] X.env= [(false,eval (.Call (.Name "range" p') [e] [] pos') X.env)]:=by rfl):PE X (.Call (.Name "list" p) [.Call (.Name "range" p') [e] [] pos'] [] pos) (tLR ta):=by
 intro pins s σ H Q I h;refine Call_ (Jk I hg hm ZCu (PyProof.Rows.callWith_type1 ?_ hs2 rfl));rw [hs2];refine Calls.spliced_cons (Call_ (Jk I hg2 hm2 PyProof.Rows.boot_range (PyProof.Rows.callWith_type1 (thn (ha pos' pins s σ H _ I h) λus s1 ⟨vs,H1,I1,r1,q1⟩=> ?_) hs rfl)));obtain ⟨j,rfl,b1,b2,q⟩:=q1;obtain ⟨u,rfl,ru⟩:=r1.one;obtain ⟨t,rfl⟩:=ru;refine call_range_1 (Calls.spliced_nil ?_)
 have hsz:Builtin.Range.rangeSize 0 j 1=(j.toNat:Int):=by rw [rangeSize_one];split <;> lia
 refine call_list_range (I.ok.hd hc) (IsRange.new ..) (small_one (by decide) (by decide) b1 (by lia)) hsz (by lia) λh' tk acc' c' hk hS' hacc=> ?_
 have I2:=I1.kept (t':=s1.toks + 1 + 1) (h':=s1.heap.push {cls:=.type "range",data:=.fields #[.int 0 s1.toks,.int j t,.int 1 (s1.toks + 1)]}) λb o e=>Heap.get?_push_of_some _ e
 refine ⟨.ref _,_,I2.laid (o:=.lst ((List.range j.toNat).map λ(i:Nat)=>V.int (i:Int))) (t':=tk) hk (Nat.le_refl _) ⟨?_,acc'.toList,c',ZM2 hacc,by simpa using hS'⟩,rfl,q _ (I2.hok.fresh (Nat.le_refl _))⟩;rw [List.length_map,List.length_range,sizeLine_eq];lia
noncomputable def dLR (t:DA):DE:=λS G=>(t S G).bind λds G1=>match ds with
 | [.int j]=>if inR j/\j<=1000000 then .ok (.ref G1.length) (G1++ [.lst (Cq 0 j.toNat)]) else .bad
 | _=>.bad
theorem ZMY {p p' pos pos':Pos} (hc:X.calm=true) (hg:Gl X "list") (hm:X.mg "list"=none) (hg2:Gl X "range") (hm2:X.mg "range"=none) (ha:QA X E [e] ta) (hs:starEach [e] X.env= [(false,eval e X.env)]:=by rfl)
  (hs2:starEach [.Call (.Name "range" p') [e] [] pos'] X.env= [(false,eval (.Call (.Name "range" p') [e] [] pos') X.env)]:=by rfl):QE X E (.Call (.Name "list" p) [.Call (.Name "range" p') [e] [] pos'] [] pos) (dLR ta):=
 (ZOV hc hg hm hg2 hm2 ha hs hs2).mono λσ H Q h=>by
  obtain ⟨a,S,G,hk,rfl,s,r,h⟩:=h;refine ⟨a,S,G,hk,rfl,s,r,(Np h).imp ?_⟩;rintro vs _ ⟨b,ds,G1,rfl,x,s1,q,-,h1⟩;split at h1
  ·rename_i j;split at h1
   ·rename_i hj;obtain ⟨v,rfl,rv⟩:=reps1 q
    cases (show v=V.int j from rv)
    refine ⟨j,rfl,hj.1.1,hj.2,λl hl=>Ls s1 ?_ h1 l hl⟩;unfold Cq;generalize List.range j.toNat=L
    induction L with
    | nil=>exact rfl
    | cons k L ih=>exact ⟨_,_,rfl,(by show V.int (k:Int)=V.int (0 + (k:Int));rw [Int.zero_add]),ih⟩
   ·exact h1.elim
  ·exact h1.elim
noncomputable def Itd (lo:Int) (n:Nat):It:=⟨λi _=>i < n,λi H x H'=>H'=H/\x=.int (lo - i),λi _=>n<=i⟩
theorem ZLK {P:Program} {w:World} {K:PySem.W.Frag} {tg:Expr} (it:Addr) (lo:Int) (n:Nat):Turn P w K tg (Itd lo n) [it] it (λi h=>IsRangeIter h it (lo + (i:Nat) * (-1)) ((n:Int) - (i:Nat)) (-1)) where
 mem:=by simp
 obj:=λi h st b hb=>by
  have e:b=it:=by simpa using hb
  subst e;exact ⟨_,st,λv z=>by have z':Data.fields _=Data.cell v:=z;cases z'⟩
 keep:=λi h h' st k=>k it (by simp) _ st
 item:=by
  intro X hP hw hK hc i pins s σ H E I hf st hg;subst hP hw hK;obtain ⟨f0,f1,f2,f3,f4,f5⟩:=hf it (by simp);have W:=Walks.range (prog:=X.prog) (w:=X.w) (I.ok.hd hc) it lo (-1) n;refine W.item i s _ _ hg st λv h' tk hv st' kk=> ?_
  obtain ⟨t,rfl⟩:=hv;have I1:Inv X pins σ H {s with heap:=h',toks:=tk}:=I.turned (λb o hb e=>kk b o (by simpa using hb) e) f0 f1 f3 f4 f5;refine ⟨_,rfl,Qk (s:={s with heap:=h',toks:=tk}) (n:="range_iterator") st' rfl rfl (by decide) ⟨.int (lo - i),H,I1,⟨t,?_⟩,⟨rfl,rfl⟩,st',λb hb=>(hf b hb).1⟩⟩
  congr 1
  lia
 done:=by intro X hP hw hK hc i pins s σ H E I hf st hg;subst hP hw hK;obtain ⟨f0,f1,f2,f3,f4,f5⟩:=hf it (by simp);exact wpAny_pyNext_range_end (I.ok.hd hc) st (by have:n<=i:=hg;lia) λh' eb=>⟨rfl,I.turned (t':=s.toks) (λb o hb e=>eb b o hb e) f0 f1 f3 f4 f5⟩
 self:=λ_ _ _ _ _ st h=>wpAny_pyIter_rangeiter st h
theorem rangeSize_down (a b:Int):Builtin.Range.rangeSize a b (-1)=if b < a then a - b else 0:=by
 unfold Builtin.Range.rangeSize;rw [if_neg (by decide)];have e:(- (-1:Int))=1:=by decide
 rw [e,Int.ediv_one]
 split <;> lia
theorem small_down {a b:Int} (ha: -(2 ^ 62)<=a) (ha':a < 2 ^ 62) (hb: -(2 ^ 62)<=b) (hb':b < 2 ^ 62):Builtin.Range.small a b (-1)=true:=by
 unfold Builtin.Range.small;rw [rangeSize_down];simp only [Builtin.Range.rangeFitsLong,Bool.and_eq_true,Bool.or_eq_true,decide_eq_true_eq,beq_iff_eq,show¬((-1:Int) > 0) by decide,if_false]
 split <;> lia
noncomputable def iDn (ta:TA):TI:=λσ H R=>ta σ H λvs H1=>∃i j:Int,vs= [.int i,.int j,.int (-1)]/\(-(2 ^ 62)<=i/\i < 2 ^ 62/\ -(2 ^ 62)<=j/\j < 2 ^ 62)/\R (Itd i (i - j).toNat) H1
theorem ZLE {tg a b c:Expr} {ta:TA} {p pos:Pos} (hg:Gl X "range") (hm:X.mg "range"=none) (ha:PA X [a,b,c] ta) (hs:starEach [a,b,c] X.env=(false,eval a X.env)::starEach [b,c] X.env:=by rfl) (hs2:(backTo pos (starEach [b,c] X.env)).any (·.1)=false:=by rfl):
  PI X tg (.Call (.Name "range" p) [a,b,c] [] pos) (iDn ta):=by
 intro pins s σ H R I h;refine Call_ (Jk I hg hm PyProof.Rows.boot_range (PyProof.Rows.callWith_type1 (thn (ha pos pins s σ H _ I h) λus s1 ⟨vs,H1,I1,r1,q1⟩=> ?_) hs hs2));obtain ⟨i,j,e,⟨q1,q2,q3,q4⟩,q⟩:=q1;subst e;cases r1 with
 | cons r rr=>
  cases rr with
  | cons r' rr=>
   cases rr with
   | cons r'' rr=>
    cases rr;obtain ⟨t,rfl⟩:=r;obtain ⟨t',rfl⟩:=r';obtain ⟨t'',rfl⟩:=r'';refine call_range_3 (by decide) ?_ (.inl (PyProof.noPylong_small (by lia)));refine wpAny_pyIter_range (IsRange.new ..) (small_down q1 q2 q3 q4) ?_;have I2:Inv X pins σ H1 {s1 with heap:=s1.heap.push {cls:=.type "range",data:=.fields #[.int i t,.int j t',.int (-1) t'']},toks:=s1.toks}:=I1.kept λb o e=>Heap.get?_push_of_some _ e
    refine ⟨(s1.heap.push {cls:=.type "range",data:=.fields #[.int i t,.int j t',.int (-1) t'']}).objs.size,[(s1.heap.push {cls:=.type "range",data:=.fields #[.int i t,.int j t',.int (-1) t'']}).objs.size],_,_,H1,rfl,
     I2.kept (t':=s1.toks) λb o e=>Heap.get?_push_of_some _ e,ZLK _ i (i - j).toNat,?_,λb hb=> ?_,q⟩
    ·have e1:i + ((0:Nat):Int) * (-1)=i:=by simp
     have e2:(((i - j).toNat:Nat):Int) - ((0:Nat):Int)=Builtin.Range.rangeSize i j (-1):=by rw [rangeSize_down];split <;> lia
     show IsRangeIter _ _ (i + ((0:Nat):Int) * (-1)) ((((i - j).toNat:Nat):Int) - ((0:Nat):Int)) (-1);rw [e1,e2];exact Heap.get?_push_size _ rfl
    ·have e:b=(s1.heap.push {cls:=.type "range",data:=.fields #[.int i t,.int j t',.int (-1) t'']}).objs.size:=by simpa using hb
     subst e;exact I2.K1 (Nat.le_refl _) (I2.hok.fresh (Nat.le_refl _))
noncomputable def Ld (lo:Int) (n:Nat):List D:=(List.range n).map λ(k:Nat)=>D.int (lo - (k:Int))
noncomputable def rng3 (ds:List D) (G:DH):R ItD:=match ds with
 | [.int i,.int j,.int k]=>if inR i/\inR j/\k= -1 then .ok (.pure (Ld i (i - j).toNat)) G else .bad
 | _=>.bad
theorem ZIS (lo:Int) (n:Nat):RepI a (.pure (Ld lo n)) (Itd lo n):=by
 refine ⟨(List.range n).map λ(k:Nat)=>V.int (lo - (k:Int)),?_,λb x i=>⟨λv hv=> ?_,λhl=> ?_⟩⟩
 ·unfold Ld;generalize List.range n=l
  induction l with
  | nil=>exact rfl
  | cons k l ih=>exact ⟨_,_,rfl,rfl,ih⟩
 ·rw [List.getElem?_map] at hv;by_cases hi:i < n
  ·rw [List.getElem?_range hi] at hv;have hv':V.int (lo - (i:Int))=v:=by simpa using hv
   exact ⟨hi,λw H' y=>⟨y.2.trans hv',y.1⟩⟩
  ·rw [List.getElem?_eq_none (by simpa using hi)] at hv;cases hv
 ·show n<=i;simpa using hl
theorem ZMW {tg e' e'':Expr} {p pos:Pos} (hg:Gl X "range") (hm:X.mg "range"=none) (ha:QA X E [e,e',e''] ta) (hs:starEach [e,e',e''] X.env=(false,eval e X.env)::starEach [e',e''] X.env:=by rfl) (hs2:(backTo pos (starEach [e',e''] X.env)).any (·.1)=false:=by rfl):
  QI X E tg (.Call (.Name "range" p) [e,e',e''] [] pos) (Dl rng3 ta):=
 (ZLE hg hm ha hs hs2).mono λσ H Q h=>by
  obtain ⟨a,S,G,hk,rfl,s,r,h⟩:=h;refine ⟨a,S,G,hk,rfl,s,r,(U7 h).imp ?_⟩;rintro vs _ ⟨b,ds,G1,rfl,x,s1,q,-,h1⟩;unfold rng3 at h1;split at h1
  ·rename_i i j k;split at h1
   ·rename_i hj;obtain ⟨hi,hj,rfl⟩:=hj;obtain ⟨v,r,e1,q1,v2,r2,e2,q2,v3,r3,e3,q3,q4⟩:=q
    cases (show v=V.int i from q1)
    cases (show v2=V.int j from q2)
    cases (show v3=V.int (-1) from q3)
    cases (show r3= [] from q4)
    subst e3;subst e2;exact ⟨i,j,e1,⟨hi.1,hi.2,hj.1,hj.2⟩,h1 b _ (Ext.refl b) s1 (ZIS i (i - j).toNat)⟩
   ·exact h1.elim
  ·exact h1.elim
end
theorem ZJS (a b:Value):checkTypeCall "enumerate" ⟨[a],[("start",b)]⟩=pure ():=by kernel_rfl
theorem ZKN (a b:Value):checkBuiltinCall "enumerate.__new__" ⟨[.type "enumerate",a],[("start",b)]⟩=pure ():=by kernel_rfl
theorem ZMO (o a b:Value):argsOk "object.__init__" ⟨[o,a],[("start",b)]⟩:=by
 unfold argsOk;rw [signature?_of (id:="object.__init__") (n:= ['_','_','t','i','n','i','_','_']) (o:= ['t','c','e','j','b','o']) (by kernel_rfl) PySem.F.owner_object]
 kernel_rfl
section
variable {prog:Program} {w:World} {A:Around} {E:Value->Shared->Prop} {s:Shared}
theorem ZLr {newId:String} {self a:Value} {kw:List (Str×Value)} (hl:typeLookup (.type T) "__init__"=pure (some (.builtin "object.__init__"))) (hm:Bind.madeBy (.type T)=pure (some newId)) (hne:(some newId != some "object.__new__")=true):
  Meets (Builtin.«object.__init__» ⟨[self,a],kw⟩) (λ_ R s=>s.TypeIs self T/\R (.ok (.ret .none)) s):=by
 refine Meets.of_wp λprog w A R s hs=> ?_
 obtain ⟨hT,hq⟩:=hs
 repeat (any_goals (first | assumption | wp_step))
 exact ⟨_,rfl,hq⟩
theorem ZMr {newId initId:String} {Bn Bi:Builtin} {args:List Value} {kw:List (Str×Value)} {S:PySem.Spec} {Q Q₁:Value->Shared->Prop} (ft:TypeCalled T newId initId)
  (hct:checkTypeCall T ⟨args,kw⟩=pure ()) (hcn:checkBuiltinCall newId ⟨.type T::args,kw⟩=pure ())
  (entryN:entryFor table newId=some Bn) (entryI:entryFor table initId=some Bi) (g:Meets (Bn ⟨.type T::args,kw⟩) S) (h:S A.in1 (wants Q₁ E) s)
  (hnext:∀obj s₁,Q₁ obj s₁->s₁.TypeIs obj T/\argsOk initId ⟨obj::args,kw⟩/\∃Si,Meets (Bi ⟨obj::args,kw⟩) Si/\Si A.in1 (wants (λr s₂=>r=.none/\Q obj s₂) E) s₁):
  wpAny (model prog w) A (call (.type T) args kw) Q E s:=by
 obtain ⟨c,tl,hmro⟩:=ft.mro;have hmade:=ft.made;have hsub:=ft.sub;refine wpAny_call (codeAny_of_tree ?_);show wpAny _ _ (callAny (.type T) _) _ _ _;refine wpAny_pure ⟨Code.quiet_builtin _ (by decide +kernel),codeAny_builtin PySem.F.entry_type_call ?_⟩;rw [Around.under_plain (weight_type_call_type T args kw) (units_type_call_type T args kw)];have h1:=ft.notType;have h2:=ft.canCreate
 repeat (any_goals (first | assumption | wp_step))
 refine codeAny_mono (codeAny_call_builtin ft.plain entryN (wpAny_of_eq hcn (g prog w A.in1 _ s h))) λr s₁ hr=> ?_
 cases r with
 | error e=>exact hr
 | ok fl=>
  cases fl with
  | ret obj=>
   obtain ⟨hT,hok,Si,gi,hsi⟩:=hnext _ _ hr;have hli:=ft.init.lookup;have hbi:=ft.init.bind obj
   repeat (any_goals (first | assumption | wp_step))
   refine codeAny_mono (codeAny_call_builtin ft.init.plain entryI (ft.init.check _ _ _ _ _ _ _ _ hT hok (gi prog w A.in1 _ s₁ hsi))) λr₂ s₂ hr₂=> ?_
   cases r₂ with
   | error e=>exact hr₂
   | ok fl₂=>
    cases fl₂ with
    | ret r=>
     obtain ⟨rfl,hq⟩:=hr₂
     repeat (any_goals (first | assumption | wp_step))
    | _=>exact hr₂.elim
  | _=>exact hr.elim
theorem ZIq {sr:Src} {xs:Array Value} {n:Int} {t:Tok} {Q:Value->Shared->Prop} (hv:sr.val s.heap xs)
  (h:∀h' tk g,Gv n g->En h' (s.heap.objs.size + 1) s.heap.objs.size .none n g .none->sr.it h' s.heap.objs.size 0->(∀b o,s.heap.get? b=some o->h'.get? b=some o)->Q (.ref (s.heap.objs.size + 1)) {s with heap:=h',toks:=tk}):
  wpAny (model prog w) A (call (.type "enumerate") [.ref sr.adr] [("start",.int n t)]) Q E s:=by
 have g:Meets (Builtin.«enumerate.__new__» ⟨[.type "enumerate",.ref sr.adr],[("start",.int n t)]⟩) (λ_ R s=>sr.val s.heap xs/\∀g tk,Gv n g->
   R (.ok (.ret (.ref (s.heap.push {cls:=.type sr.itn,data:=.fields #[.ref sr.adr,.int 0 0]}).objs.size)))
    {s with heap:=(s.heap.push {cls:=.type sr.itn,data:=.fields #[.ref sr.adr,.int 0 0]}).push {cls:=.type "enumerate",data:=.fields #[.none,.bool false,.ref s.heap.objs.size,rawInt n,g,.none]},toks:=tk}):=
  .of_wp λprog w A R s h=>by
   obtain ⟨hp,g,d,tk,os⟩:=s;obtain ⟨hl,h⟩:=h;have hsub:=sub_enumerate;have hL:sr.val (Shared.heap ⟨hp,g,d,tk,os⟩) xs:=hl
   wp_walk
   refine wpAny_stack_any λst=>wpAny_pure ?_
   cases hf:Builtin.SmallTypes.fitsIndex n
   ·split
    ·rename_i c _ _ _ _ _
     cases (c == Value.type "enumerate") <;> (wp_walk using Src.iter hL;exact ⟨_,rfl,h _ _ (.inr ⟨t,rfl⟩)⟩)
    ·wp_walk using Src.iter hL
     exact ⟨_,rfl,h _ _ (.inr ⟨t,rfl⟩)⟩
   ·split
    ·rename_i c _ _ _ _ _
     cases (c == Value.type "enumerate") <;> (wp_walk using Src.iter hL;exact ⟨_,rfl,h _ _ (.inl rfl)⟩)
    ·wp_walk using Src.iter hL
     exact ⟨_,rfl,h _ _ (.inl rfl)⟩
 refine ZMr (Q₁:=λobj s₁=>s₁.TypeIs obj "enumerate"/\Q obj s₁) PySem.F.called_enumerate (ZJS _ _) (ZKN _ _) PySem.F.entry_enumerate_new PySem.F.entry_object_init g ⟨hv,λg tk hg=> ?_⟩ λobj s₁ hq=>⟨hq.1,ZMO obj _ _,_,ZLr PySem.F.called_enumerate.init.lookup PySem.F.called_enumerate.made (by decide),hq.1,rfl,hq.2⟩
 have hz:(s.heap.push {cls:=.type sr.itn,data:=.fields #[.ref sr.adr,.int 0 0]}).objs.size=s.heap.objs.size + 1:=Heap.size_push ..;show _/\_;rw [hz];have he:En ((s.heap.push {cls:=.type sr.itn,data:=.fields #[.ref sr.adr,.int 0 0]}).push {cls:=.type "enumerate",data:=.fields #[.none,.bool false,.ref s.heap.objs.size,rawInt n,g,.none]}) (s.heap.objs.size + 1) s.heap.objs.size .none n g .none:=by
  have:=Heap.get?_push_size (s.heap.push {cls:=.type sr.itn,data:=.fields #[.ref sr.adr,.int 0 0]}) (o:={cls:=.type "enumerate",data:=.fields #[.none,.bool false,.ref s.heap.objs.size,rawInt n,g,.none]}) rfl;rw [hz] at this;exact this
 exact ⟨⟨_,he,rfl⟩,h _ tk g hg he ⟨_,Heap.get?_push_of_some _ (Heap.get?_push_size _ rfl),rfl,rfl⟩ λb o x=>Heap.get?_push_of_some _ (Heap.get?_push_of_some _ x)⟩
theorem ZLO {M:Model} {A:Around} {E:Value->Shared->Prop} {s:Shared} {env:Env} {pos:Pos} {rest:List Expr} {kws:List Keyword} {Q:Value->Shared->Prop}
  (hall:(backToKw pos (keywordEach kws env)).all (·.1.isSome)=true)
  (h:wpAny M A (spliced (backTo pos (starEach (e::rest) env))) (λvs s₁=>wpAny M A (evalAll ((backToKw pos (keywordEach kws env)).map (·.2)))
   (λks s₂=>wpAny M A (call (.type T) vs (((backToKw pos (keywordEach kws env)).filterMap (·.1)).zip ks)) Q E s₂) E s₁) E s)
  (hplain:(backTo pos (starEach (e::rest) env)).any (·.1)=false) (hkw:(backToKw pos (keywordEach kws env)).any (·.1.isNone)=false) (he:starEach (e::rest) env=(false,eval e env)::starEach rest env):
  wpAny M A (callWith pos (.type T) [] (backTo pos (starEach (e::rest) env)) (backToKw pos (keywordEach kws env))) Q E s:=by
 unfold callWith;refine wpAny_bind (wpAny_holding (wpAny_mono (PyProof.Rows.evalArgs_kw2 (Q:=λa s₁=>wpAny M A (call (.type T) ([]++a.pos) a.kw) Q E s₁) hall h he) (λa s₁ h₁=>wpAny_bind (wpAny_standAt ?_)) λ_ _ x=>x));simp only [hplain,hkw,Bool.or_false];refine wpAny_bind (wpAny_pure ?_);exact wpAny_bind (wpAny_mono h₁ (λr s₂ hr=>wpAny_bind (wpAny_holding (wpAny_point (wpAny_pure hr)))) λ_ _ x=>x)
end
section
variable {X:Cx} {E:XK}
noncomputable def ZMg (K:PySem.W.Frag) (ta tk:TA):TI:=λσ H R=>ta σ H λvs H1=>tk σ H1 λws H2=>∃sr xs n,vs= [.ref (Src.adr sr)]/\ws= [.int n]/\sr.sq K H2 xs/\R (Ite K sr n) H2
theorem ZJd {elts:List Expr} {x1} {tp:Pos} {a b:Expr} {ta tk:TA} {p pos kp:Pos} (hg:Gl X "enumerate") (hm:X.mg "enumerate"=none) (ha:PA X [a] ta) (hk:PK X [⟨some "start",b,kp⟩] tk) (hs:starEach [a] X.env= [(false,eval a X.env)]:=by rfl):
  PI X (.Tuple elts x1 tp) (.Call (.Name "enumerate" p) [a] [⟨some "start",b,kp⟩] pos) (ZMg X.K ta tk):=by
 intro pins s σ H R I h;refine wpAny_Call_Name_kw (Jk I hg hm PyProof.Rows.boot_enumerate (ZLO rfl (thn (ha pos pins s σ H _ I h) λus s1 ⟨vs,H1,I1,r1,q1⟩=>thn (hk pos pins s1 σ H1 _ I1 q1) λus2 s2 ⟨ws,H2,I2,r2,q2⟩=> ?_) (by rw [hs];rfl) rfl hs));obtain ⟨sr,xs,n,e,e2,hq,q⟩:=q2;subst e;subst e2;cases r1 with
 | cons r rr=>
  cases rr;cases r;obtain ⟨u,rfl,ru⟩:=r2.one;obtain ⟨t,rfl⟩:=ru;obtain ⟨its,rv,hv,hz⟩:=Src.sq.val I2 hq;refine ZIq hv λh' tk g hg he hi kp=> ?_
  refine ZB1 he ?_;have I3:Inv X pins σ H2 {s2 with heap:=h',toks:=tk}:=I2.kept (t':=tk) kp;refine ⟨s2.heap.objs.size + 1,[s2.heap.objs.size + 1,s2.heap.objs.size],_,_,H2,rfl,I3,ZGA sr n _ _ (Nat.succ_ne_self _),⟨g,.none,by simpa using he,by simpa using hg,hi⟩,λb hb=> ?_,q⟩;have hb':b=s2.heap.objs.size + 1∨b=s2.heap.objs.size:=by simpa using hb
  have hle:s2.heap.objs.size<=b:=by rcases hb' with rfl | rfl <;> lia
  exact I2.K1 hle (I2.hok.fresh hle)
theorem ZJz {sr:Src} {n0:Int} (hk:a.K=X.K) (rd:∀b:Wd,Ext a b->∀G',Sim b G'->∀ys,Cd d G'=some ys->∃us,sr.sq b.K b.H us/\Reps b ys us) (n:Nat):RepI a (.fn n (Er n0 d)) (Ite X.K sr n0):=by
 intro b x G' s' i;have kb:b.K=X.K:=x.k.trans hk;constructor
 ·intro e he;unfold Er at he;split at he
  ·cases he
  ·rename_i ys hy;obtain ⟨us,hq,ru⟩:=rd b x G' s' ys hy;rw [kb] at hq;cases hyi:ys[i]? with
   | none=>rw [hyi] at he;cases he
   | some y=>
    rw [hyi] at he;have he':D.tup [.int (n0 + i),y]=e:=by simpa using he
    subst he';obtain ⟨u,hu,rx⟩:=ru.get hyi;refine ⟨⟨us,u,hq,hu⟩,?_⟩;rintro w H' ⟨p,u',rfl,hp,rfl,hu'⟩;refine ⟨b.put p (.tup [.int (n0 + i),u']),rfl,Ext.put hp,s'.put hp,p,_,rfl,.of Gk,?_⟩;have e1:=hu' us hq;rw [hu] at e1;cases e1;exact ⟨_,_,rfl,rfl,Reps.cons (rx.mono (Ext.put hp)) rfl⟩
 ·intro he;unfold Er at he;split at he
  ·cases he
  ·rename_i ys hy;obtain ⟨us,hq,ru⟩:=rd b x G' s' ys hy;rw [kb] at hq;cases hyi:ys[i]? with
   | none=>exact ⟨us,hq,by rw [<-ru.length];exact List.getElem?_eq_none_iff.mp hyi⟩
   | some y=>rw [hyi] at he;cases he
noncomputable def ZA4 (ta:DA) (tb:DE):DI:=λS G=>(ta S G).bind λds G1=>(tb S G1).bind λk G2=>match ds,k with
 | [d],.int n=>match Cd d G2 with
  | some xs=>.ok (.fn xs.length (Er n d)) G2
  | none=>.bad
 | _,_=>.bad
theorem ZKk {b:Expr} {nm:Option Str} {kp:Pos} {tb:DE} (hb:QE X E b tb):PK X [⟨nm,b,kp⟩] (Z0 (lE X.K E tb) Xe):=ZOD hb ZIe
theorem ZLe {E:XK} {r:R D} {f:D->DH->R ItD} {Q:It->Hp->Prop} (h:outI E a (r.bind f) Q):
  out E a r (λv H=>∃(b:Wd) (d:D) (G:DH),b.H=H/\Ext a b/\Sim b G/\Rep b d v/\outI E b (f d G) Q):=by
 cases r with
 | ok d G=>exact λb v x s q=>⟨b,d,G,rfl,x,s,q,outI.mono x h⟩
 | err e G=>exact h
 | bad=>exact h
theorem ZJG {elts:List Expr} {x1} {tp:Pos} {b:Expr} {tb:DE} {p pos kp:Pos} (hg:Gl X "enumerate") (hm:X.mg "enumerate"=none) (ha:QA X E [e] ta) (hb:QE X E b tb) (hs:starEach [e] X.env= [(false,eval e X.env)]:=by rfl):
  QI X E (.Tuple elts x1 tp) (.Call (.Name "enumerate" p) [e] [⟨some "start",b,kp⟩] pos) (ZA4 ta tb):=(ZJd hg hm ha (ZKk hb) hs).mono λσ H Q h=>by
 obtain ⟨a,S,G,hk,rfl,s,r,h⟩:=h;refine ⟨a,S,G,hk,rfl,s,r,(U7 h).imp ?_⟩;rintro vs _ ⟨b,ds,G1,rfl,x,s1,q,-,h1⟩;refine ⟨b,S,G1,x.k.trans hk,rfl,s1,r.mono x,(ZLe h1).imp ?_⟩;rintro v _ ⟨c,k,G2,rfl,y,s2,q2,h2⟩;split at h2
 ·rename_i d n;split at h2
  ·rename_i xs hx;obtain ⟨w,r,e1,q1,q3⟩:=q
   cases (show r= [] from q3)
   subst e1
   cases (show v=V.int n from q2)
   obtain ⟨sr,rfl,⟨us,hq⟩,rd⟩:=Yn s2 (q1.mono y) hx;have kb:c.K=X.K:=(y.k.trans x.k).trans hk;exact ⟨sr,us,n,rfl,rfl,by rw [<-kb];exact hq,h2 c _ (Ext.refl c) s2 (ZJz kb rd _)⟩
  ·exact h2.elim
 ·exact h2.elim
end
end DL
namespace DL
open PySem PySem.Spec L2
variable {d:D}
noncomputable def Js (c f:Str) (d:D) (G:DH):R D:=match K7 c d G with
 | some fs=>match fs.lookup f with
  | some v=>.ok v G
  | none=>.bad
 | none=>.bad
noncomputable def Qc (c f:Str) (o d:D) (S:DSt) (G:DH):SR:=match o with
 | .ref i=>match K7 c o G with
  | some fs=>if fs.length < 1000 then .nx S (G.set i (.ins c (Hm f d fs))) else .bad
  | none=>.bad
 | _=>.bad
noncomputable def Ur (c m:Str) (F:List D->DH->R D) (t:DA) (S:DSt) (o:D) (G:DH):R D:=match K7 c o G with
 | some fs=>match fs.lookup m with
  | none=>(t S G).bind λds G2=>F (o::ds) G2
  | some _=>.bad
 | none=>.bad
noncomputable def ZAO (F:List D->DH->R D) (c:Str) (ds:List D) (G1:DH):R D:=(F (.ref G1.length::ds) (G1++ [.ins c []])).bind λv G2=>match v with
 | .non=>.ok (.ref G1.length) G2
 | _=>.bad
section
variable {S:DSt} {G:DH} {c f m:Str} {t to tv:DE} {ta:DA} {F:List D->DH->R D} {i:Nat} {fs:List (Str×D)} {v d:D}
@[simp] theorem ev_fld:Ex c t f S G=(t S G).bind λd G1=>Js c f d G1:=id rfl
@[simp] theorem Mv:Gw c to tv f S G=(tv S G).toS λd G1=>(to S G1).toS λo G2=>Qc c f o d S G2:=id rfl
@[simp] theorem ZQ6:J0 c m F to ta S G=(to S G).bind λo G1=>Ur c m F ta S o G1:=id rfl
@[simp] theorem ZQM:ZAK c F ta S G=(ta S G).bind λds G1=>ZAO F c ds G1:=id rfl
theorem Zj (h:G[i]? =some (.ins c fs)):K7 c (.ref i) G=some fs:=by unfold K7;simp only [h,if_true]
theorem Nk (h:G[i]? =some (.ins c fs)) (h2:fs.lookup f=some v):Js c f (.ref i) G=.ok v G:=by unfold Js;rw [Zj h];simp only [h2]
theorem ZKY (h:G[i]? =some (.ins c fs)) (hl:fs.length < 1000):Qc c f (.ref i) d S G=.nx S (G.set i (.ins c (Hm f d fs))):=by unfold Qc;simp only [Zj h,hl,if_true]
theorem ZN1 (h:G[i]? =some (.ins c fs)) (h2:fs.lookup m=none):Ur c m F ta S (.ref i) G=(ta S G).bind λds G2=>F (.ref i::ds) G2:=by unfold Ur;rw [Zj h];simp only [h2]
@[simp] theorem ev_LR:dLR ta S G=(ta S G).bind λds G1=>match ds with
 | [.int j]=>if inR j/\j<=1000000 then .ok (.ref G1.length) (G1++ [.lst (Cq 0 j.toNat)]) else .bad
 | _=>.bad:=id rfl
@[simp] theorem ZMu {i j:Int} (hi:inR i) (hj:inR j):rng3 [.int i,.int j,.int (-1)] G=.ok (.pure (Ld i (i - j).toNat)) G:=by simp [rng3,hi,hj]
theorem ZH6 {lo:Int}:Ld lo 0= []:=rfl
theorem ZK0 {lo:Int} {n:Nat}:Ld lo (n + 1)=.int lo::Ld (lo - 1) n:=by
 unfold Ld;rw [List.range_succ_eq_map,List.map_cons,List.map_map]
 congr 1
 ·simp
 ·refine List.map_congr_left λk _=> ?_
  simp only [Function.comp]
  congr 1
  lia
theorem ZKr {ns:List Int} {k:Int} (h:I9 d G=some (ns.map D.int)) (hm:k∈ns) (hl:ns.length<=1000000):Px d [.int k] G=.ok (.int (ns.idxOf k)) G:=by unfold Px;simp only [h,ZCE,hm,hl,and_self,if_true]
theorem ZOF {G G':DH} (hl:G'.length=G.length) (hb:bel G.length d=true):tidy G (.ok d G')=.ok d G':=by
 unfold tidy;simp only [hb,if_true];split
 ·rename_i h;rw [List.take_of_length_le (by lia)] at h;rw [h]
 ·rfl
theorem ZPO {G G':DH} (h:G'.take G.length≠G):tidy G (.ok d G')=.ok d G':=by unfold tidy;simp only [h,if_false]
end
end DL
namespace DL
open PySem PySem.Spec L2
open PyProof.Rows hiding St
noncomputable def O8 (x:Str) (n:Int):Str:=if n < 1 then Str.empty else if (n == 1 || x.length == 0)=true then x else ⟨(List.replicate n.toNat x.cps).foldl (·++·) #[]⟩
theorem Yq {a:Array Nat}:∀(n:Nat) (b:Array Nat),((List.replicate n a).foldl (·++·) b).toList=b.toList++(List.replicate n a.toList).flatten
 | 0,b=>by simp
 | n + 1,b=>by rw [List.replicate_succ,List.foldl_cons,Yq n (b++a),List.replicate_succ,List.flatten_cons];simp
theorem ZNF {a:Array Nat} (n:Nat):((List.replicate n a).foldl (·++·) #[]).size=n * a.size:=by rw [<-Array.length_toList,Yq];simp
theorem ZOv {x:Str} {n:Int}:(O8 x n).cps.toList=(List.replicate n.toNat x.cps.toList).flatten:=by
 unfold O8;split
 ·rename_i h;have e:n.toNat=0:=by lia
  rw [e];rfl
 ·rename_i h;split
  ·rename_i hx;rw [Bool.or_eq_true,beq_iff_eq,beq_iff_eq] at hx;rcases hx with rfl | hx
   ·simp
   ·have e:x.cps.toList= []:=by have:x.cps.size=0:=hx;rw [<-Array.length_toList] at this;exact List.eq_nil_of_length_eq_zero this
    rw [e];simp
  ·show ((List.replicate n.toNat x.cps).foldl (·++·) #[]).toList=_
   rw [Yq];simp
noncomputable def Bs:D->D->DH->R D
 | .int i,.int j,G=>if MulB i j then .ok (.int (i * j)) G else .bad
 | .str x,.int n,G=>if -1000<=n/\n<=1000/\x.length<=1000 then .ok (.str (O8 x n)) G else .bad
 | _,_,_=>.bad
section
variable {X:Cx} {E:XK}
theorem ZO9:OpR X (binaryOp .Mult) (λx y H Q=>∃i n,x=.str i/\y=.int n/\(-1000<=n/\n<=1000/\i.length<=1000)/\Q (.str (O8 i n)) H):=by
 intro pins s σ H x y v u Q I rx ry h;obtain ⟨i,n,rfl,rfl,⟨h1,h2,h3⟩,q⟩:=h;obtain ⟨t,rfl⟩:=rx;obtain ⟨t',rfl⟩:=ry;have hlen:∀m:Nat,m<=1000->i.length * m<=1000000:=λm hm=>Nat.le_trans (Nat.mul_le_mul h3 hm) (by decide)
 refine P.mul_str ?_ (λhn hx=> ?_) (λhn hx=> ?_) ?_
 ·rw [decide_eq_false (by lia),decide_eq_false (by lia)];rfl
 ·intro hgt;have hm:0 < n:=by lia
  have:(i.length:Int) * n<=2 ^ 63 - 1:=by have h4:(i.length:Int) * n<=1000 * 1000:=Int.mul_le_mul (by lia) h2 (by lia) (by lia);lia
  have h5:=(Int.le_ediv_iff_mul_le hm).mpr this;lia
 ·have:=hlen n.toNat (by lia);unfold Builtin.Str.tooLong;rw [sizeLine_eq];exact decide_eq_false (by lia)
 ·unfold O8 at q;split
  ·rename_i hn;rw [if_pos hn] at q;exact ⟨by decide,.str Str.empty,H,I.tok _,⟨_,rfl⟩,q⟩
  ·rename_i hn;rw [if_neg hn] at q;split
   ·rename_i hx;rw [if_pos hx] at q;exact ⟨.str i,H,I,⟨t,rfl⟩,q⟩
   ·rename_i hx;rw [if_neg hx] at q;refine ⟨?_,.str _,H,I.tok _,⟨_,rfl⟩,q⟩
    show ((List.replicate n.toNat i.cps).foldl (·++·) #[]).size<=sizeLine
    have h6:i.cps.size<=1000:=h3;have h7:=Nat.mul_le_mul (show n.toNat<=1000 by lia) h6;rw [ZNF,sizeLine_eq];lia
theorem Dz:OpR X (binaryOp .Mult) (lR2 X.K E Bs):=Hx (ZJA.or ZO9) λa G d e x y Q hk s rd re q=>by
 cases d <;> cases e <;> first
  | exact q.elim
  | (
    rename_i i j;unfold Bs at q;dsimp only at q;split at q
    ·first
     | exact .inl ⟨_,_,rd,re,by assumption,q a _ (Ext.refl a) s rfl⟩
     | exact .inr ⟨_,_,rd,re,by assumption,q a _ (Ext.refl a) s rfl⟩
    ·exact q.elim)
end
section
variable {i j:Int} {G:DH}
theorem Kr (h1: -(2 ^ 64) < i) (h2:i < 2 ^ 64):Bs (.int i) (.int j) G=.ok (.int (i * j)) G:=if_pos (.inl (.inl ⟨h1,h2⟩))
theorem Mi (h1: -(2 ^ 64) < j) (h2:j < 2 ^ 64):Bs (.int i) (.int j) G=.ok (.int (i * j)) G:=if_pos (.inl (.inr ⟨h1,h2⟩))
@[simp] theorem ZQa {n:Nat} (h:n < 18446744073709551616):Bs (.int (no_index (OfNat.ofNat n))) (.int j) G=.ok (.int (OfNat.ofNat n * j)) G:=
 Kr (by have:(0:Int)<=(OfNat.ofNat n:Int):=Int.natCast_nonneg n;lia) (by have:(OfNat.ofNat n:Int) < 18446744073709551616:=Int.ofNat_lt.mpr h;lia)
@[simp] theorem ZQJ {n:Nat} (h:n < 18446744073709551616):Bs (.int i) (.int (no_index (OfNat.ofNat n))) G=.ok (.int (i * OfNat.ofNat n)) G:=
 Mi (by have:(0:Int)<=(OfNat.ofNat n:Int):=Int.natCast_nonneg n;lia) (by have:(OfNat.ofNat n:Int) < 18446744073709551616:=Int.ofNat_lt.mpr h;lia)
theorem ZPP {x:Str} {n:Int} (h: -1000<=n/\n<=1000/\x.length<=1000):Bs (.str x) (.int n) G=.ok (.str (O8 x n)) G:=if_pos h
end
section
variable {X:Cx} {E:XK} {e st:Expr} {te:TE} {ts:TO} {p2 pos:Pos}
end
section
variable {S:DSt} {G:DH}
end
section
variable {X:Cx} {E:XK}
end
section
variable {S:DSt} {G:DH}
end
section
variable {X:Cx} {pins:List (Addr×Obj)} {σ:St} {H:Hp} {s:Shared} {N:List Str} {scope:Scope} {caps:List Nat} {x qual:Str} {f:Addr} {cd:Value} {A:Around}
end
section
variable {X:Cx} {pins:List (Addr×Obj)} {σ:St} {s:Shared} {scope:Scope} {a:Wd}
end
noncomputable def ltK (ks:List Int) (i j:Nat):Bool:=decide (ks.getD i 0 < ks.getD j 0)
section
variable {prog:Program} {w:World} {A:Around} {E:Value->Shared->Prop} {s:Shared}
end
section
variable {X:Cx} {pins:List (Addr×Obj)} {σ:St} {H:Hp} {s:Shared} {h':Heap} {m:Str->Option Value}
end
section
variable {X:Cx} {pins:List (Addr×Obj)} {σ:St} {N:List Str} {scope:Scope} {caps:List Nat} {x:Str} {f:Addr} {A:Around} {a:Wd} {S:DSt} {body:Expr} {te:DE} {params:Arguments} {pm ctv:Value} {c':Addr} {ob oc:Obj} {vs0:Array Value} {t0:Tok} {E:XK}
 {Dd kS:Addr} {e1:Nat} {m:Str->Option Value} {h₀:Heap} {Q:VK}
end
end DL
namespace DL
open PySem PySem.Spec L2
open PyProof.Rows hiding St
open PySem.W (KatKeys KatFin katRev KatBack)
section
variable {prog:Program} {w:World} {A:Around} {E:Value->Shared->Prop} {s:Shared} {h₀:Heap} {L a kS:Addr} {m:Str->Option Value} {P:PySem.Fin->Shared->Prop}
end
end DL
namespace DL
open PySem PySem.Spec L2
open PyProof.Rows hiding St
section
variable {X:Cx} {pins:List (Addr×Obj)} {σ:St} {N:List Str} {scope:Scope} {caps:List Nat} {x:Str} {f:Addr} {A:Around} {a:Wd} {S:DSt} {body:Expr} {te:DE} {params:Arguments} {pm ctv:Value} {c':Addr} {ob oc:Obj} {vs0:Array Value} {t0:Tok}
 {Dd kS:Addr} {e1:Nat} {m:Str->Option Value} {h₀:Heap} {Q:VK}
end
section
variable {X:Cx} {pins:List (Addr×Obj)} {σ:St} {N:List Str} {scope:Scope} {caps:List Nat} {x:Str} {f:Addr} {A:Around} {a:Wd} {S:DSt} {body:Expr} {te:DE} {params:Arguments} {pm ctv:Value} {c':Addr} {ob oc:Obj} {vs0:Array Value} {t0:Tok} {Q:VK}
end
section
variable {X:Cx} {N:List Str} {scope:Scope} {caps:List Nat} {x:Str} {body:Expr} {te:DE} {params:Arguments} {e:Expr} {tn:DA} {p p' pos pos' lp kp kp' cp:Pos} {C m:Str} {cj:Nat}
end
end DL
namespace DL
open PySem PySem.W L2
variable {h:Heap} {C:Addr} {m x q:Str} {st:Stmt}
noncomputable def Nr:List Obj->Nat->Frag
 | [],_=> []
 | o::r,n=>match o.cls,o.data with
  | .none,.fields _=>Nr r (n + 1)
  | _,.freed=>Nr r (n + 1)
  | _,_=>(n,o)::Nr r (n + 1)
noncomputable def Tg (h:Heap):Frag:=Nr h.objs.toList 0
theorem ZDI {a:Addr} {o:Obj}:∀{l:List Obj} {n:Nat},(Nr l n).lookup a=some o->n<=a/\l[a - n]? =some o/\∀x y z,o≠⟨x,y,.freed,z⟩
 | [],n,h=>by cases h
 | p::r,n,h=>by
  have next:(Nr r (n + 1)).lookup a=some o->n<=a/\(p::r)[a - n]? =some o/\∀x y z,o≠⟨x,y,.freed,z⟩:=λh=>by obtain ⟨h1,h2,h3⟩:=ZDI h;obtain ⟨k,rfl⟩:=Nat.exists_eq_add_of_le h1;rw [Nat.add_sub_cancel_left] at h2;refine ⟨Nat.le_trans (Nat.le_succ n) h1,?_,h3⟩;rw [show n + 1 + k - n=k + 1 by rw [Nat.add_assoc,Nat.add_sub_cancel_left,Nat.add_comm],List.getElem?_cons_succ];exact h2
  unfold Nr at h;split at h
  ·exact next h
  ·exact next h
  ·rename_i hz hf;rw [List.lookup_cons] at h;split at h
   ·rename_i e;have e':a=n:=by simpa using e
    subst e';cases h;refine ⟨Nat.le_refl _,by simp,λx y z q=> ?_⟩;subst q;exact hz rfl
   ·exact next h
theorem ZJM (h:Heap):(Tg h).In h:=λa o e=>by
 obtain ⟨_,h2,h3⟩:=ZDI e;have h4:h.objs[a]? =some o:=by simpa using h2
 unfold Heap.get?;rw [h4];split
 ·rename_i q;cases q;exact absurd rfl (h3 _ _ _)
 ·rfl
noncomputable def Lj (p:Program) (N:Nat) (w:World):Heap:=match openEnds treeTable p w N with
 | some s=>s.heap
 | none=>default
noncomputable def Stays (p:Program) (N:Nat) (w:World) (h:Heap):Prop:=∀b o,(Lj p N w).get? b=some o->h.get? b=some o
theorem Stays.in {p:Program} {N:Nat} {w:World} (x:Stays p N w h):(Tg (Lj p N w)).In h:=λa o e=>x a o (ZJM _ a o e)
noncomputable def Xm (p:Program) (N:Nat):Hook:=
 ⟨Heap,λs=>s.heap,Lj p N,Stays p N,λw s e b o q=>by rw [show s.heap=Lj p N w from e];exact q,λw h h' x k b o q=>k b o (x b o q)⟩
section
variable {p q:Program} {loose:List Str} {Xt:Shared->Bool} {N:Nat} {β:Type} {see:Heap->β} {val:β}
theorem ZIc (E:∀w,(openEnds treeTable p w N).map (λs=>(openSeen q loose (importedModules p.main.body) Xt true s,see s.heap))=some (openGood q loose,val)):
  LeftO p q loose Xt (Xm p N).obs (Xm p N).val N:=λw=>by
 obtain ⟨s,h1,h2⟩:=Option.map_eq_some_iff.mp (E w);show Option.map _ _=some (openGood q loose,Lj p N w);unfold Lj;rw [h1];show some (openSeen q loose (importedModules p.main.body) Xt true s,s.heap)=_;rw [(Prod.mk.inj h2).1]
theorem ZOM (E:∀w,(openEnds treeTable p w N).map (λs=>(openSeen q loose (importedModules p.main.body) Xt true s,see s.heap))=some (openGood q loose,val)) (w:World):see (Lj p N w)=val:=by obtain ⟨s,h1,h2⟩:=Option.map_eq_some_iff.mp (E w);unfold Lj;rw [h1];exact (Prod.mk.inj h2).2
end
noncomputable def dOf (s:Stmt):DefRec:=match s with
 | Stmt.FunctionDef n a b _ _ _ s _ _ p=>⟨n,a,b,s,p⟩
 | _=>⟨Str.empty,⟨[],[],none,[],[],none,[]⟩,[],{kind:=.module,names:= [],isGenerator:=false,isCoroutine:=false,more:= []},⟨0,0,0,0⟩⟩
noncomputable abbrev XtOf (l:OpenLaw) (q:Program) (s:Shared):Bool:=xlAt q [] s && recOk l.row.toRowW.records s
theorem holds_top {l:OpenLaw} {q:Program} {loose:List Str} {N:Nat} {β:Type} {see:Heap->β} {val:β} {d:DefRec} (well:l.wellSaid=true)
  (E:∀w,(openEnds treeTable l.prog w N).map (λs=>(openSeen q loose (importedModules l.prog.main.body) (XtOf l q) true s,see s.heap))=some (openGood q loose,val))
  (hdef:defOf q l.row.name=some (d,[])) (hp:l.row.prog.theDef l.row.name=some (d.params,d.body,d.scope)) (hk:kwWritten? d.params.kwonlyargs d.params.kw_defaults=some []) (hwr:(!l.row.writes || l.row.records.isEmpty)=true)
  (ok:(chainsOk q && opensWell l.row.prog && (frees l.row.toRowW && l.row.within.isEmpty))=true) (hb:l.row.prog.bare) (hw:l.row.toRowW.promised)
  (call:WalkO q loose (XL q []) (Stays l.prog N) l.row.toRowW d [] λf vs=>PySem.call f vs):l.Holds:=
 holds_law well λsaid=>holds_open (r:=l.row) (q:=q) (loose:=loose) (Xt:=XtOf l q) (XP:=XL q []) (YP:=Stays l.prog N) (N:=N) (ZIc E) (Xm l.prog N).of (Xm l.prog N).keeps
  (λs e=>xl_of s (Bool.and_eq_true_iff.mp e).1) XL.keeps hdef hp hk (λs e=>recFacts_of (Bool.and_eq_true_iff.mp e).2) hwr said ok hb hw call
noncomputable def Bk (K:Frag) (n:Str):Addr:=match nsIn K mainGlobals n with
 | some (some (.ref f))=>f
 | _=>0
noncomputable def gOk (K:Frag) (n:Str):Bool:=match nsIn K mainGlobals n with
 | some (some (.ref _))=>true
 | _=>false
theorem ZDR {K:Frag} {n:Str} (h:gOk K n=true):nsIn K mainGlobals n=some (some (.ref (Bk K n))):=by
 unfold gOk at h;unfold Bk;split at h
 ·rename_i e;rw [e]
 ·cases h
noncomputable def Hd (K:Frag) (C:Addr) (m:Str):Addr:=match findIn K (.ref C) m with
 | some (some (.ref f))=>f
 | _=>0
noncomputable def mOk (K:Frag) (C:Addr) (m:Str):Bool:=match findIn K (.ref C) m with
 | some (some (.ref f))=>isFn K (.ref f)
 | _=>false
theorem ZEv {K:Frag} (h:mOk K C m=true):findIn K (.ref C) m=some (some (.ref (Hd K C m)))/\isFn K (.ref (Hd K C m))=true:=by
 unfold mOk at h;unfold Hd;split at h
 ·rename_i e;rw [e];exact ⟨rfl,h⟩
 ·cases h
noncomputable def noF (K:Frag) (C:Addr) (m:Str):Bool:=match findIn K (.ref C) m with
 | some none=>true
 | _=>false
theorem ZNH {K:Frag} (h:noF K C m=true):findIn K (.ref C) m=some none:=by
 unfold noF at h;split at h
 ·assumption
 ·cases h
noncomputable def zOk (K:Frag) (n:Str):Bool:=match nsIn K mainGlobals n with
 | some none=>true
 | _=>false
theorem ZPB {K:Frag} {n:Str} (h:zOk K n=true):nsIn K mainGlobals n=some none:=by
 unfold zOk at h;split at h
 ·assumption
 ·cases h
noncomputable def ZCI (K:Frag) (C:Addr):Bool:=match findIn K (.ref C) "__setattr__" with
 | some (some (.builtin s))=>s == "object.__setattr__"
 | _=>false
theorem ZIp {K:Frag} (h:ZCI K C=true):findIn K (.ref C) "__setattr__"=some (some (.builtin "object.__setattr__")):=by
 unfold ZCI at h;split at h
 ·rename_i e;rw [e,beq_iff_eq.mp h]
 ·cases h
noncomputable def iOk (K:Frag) (n:Str) (v:Int):Bool:=match nsIn K mainGlobals n with
 | some (some (.int u _))=>decide (u=v)
 | _=>false
noncomputable def sOk (K:Frag) (n:Str) (v:Str):Bool:=match nsIn K mainGlobals n with
 | some (some (.str u _))=>decide (u=v)
 | _=>false
noncomputable def Ej (K:Frag) (n:Str):Tok:=match nsIn K mainGlobals n with
 | some (some (.int _ t))=>t
 | some (some (.str _ t))=>t
 | _=>0
theorem ZNm {K:Frag} {n:Str} {v:Int} (h:iOk K n v=true):nsIn K mainGlobals n=some (some (.int v (Ej K n))):=by
 unfold iOk at h;unfold Ej;split at h
 ·rename_i e;rw [e,of_decide_eq_true h]
 ·cases h
theorem ZNp {K:Frag} {n:Str} {v:Str} (h:sOk K n v=true):nsIn K mainGlobals n=some (some (.str v (Ej K n))):=by
 unfold sOk at h;unfold Ej;split at h
 ·rename_i e;rw [e,of_decide_eq_true h]
 ·cases h
noncomputable def Nv (K:Frag) (f:Addr):Obj:=match K.lookup f with
 | some o=>o
 | none=>⟨.none,none,.plain,#[]⟩
noncomputable def Ea (K:Frag) (f:Addr):FuncData:=match (Nv K f).data with
 | .func fd=>fd
 | _=>default
noncomputable def ZNI:Value->Bool
 | .none=>true
 | _=>false
noncomputable def ZJb:FuncBody->Option (List Stmt)
 | .stmts b=>some b
 | _=>none
noncomputable def Ue (K:Frag) (x q:Str) (f:Addr):Bool:=match K.lookup f with
 | some ⟨_,_,.func fd,_⟩=>decide (fd.name=x) && decide (fd.qualname=q) && (fd.globals == mainGlobals && fd.builtins == builtinsNs && fd.closure.isEmpty && ZNI fd.defaults) && (codeIn K fd.code q && keepIn K (.ref f))
 | _=>false
noncomputable abbrev DefTxt:=Arguments×Option (List Stmt)×Scope
noncomputable def Ut (K:Frag) (f:Addr):DefTxt:=((Ea K f).params,ZJb (Ea K f).body,(Ea K f).scope)
noncomputable def W6 (st:Stmt):DefTxt:=(Lg st,some (J8 st),Av st)
noncomputable abbrev FnSaid (K:Frag) (x q:Str) (st:Stmt) (f:Addr):Prop:=
 K.lookup f=some ⟨(Nv K f).cls,(Nv K f).dict,.func (fnOf x q (Lg st) (J8 st) (Av st) .none (Ea K f).kwdefaults (Ea K f).doc (Ea K f).pyModule (Ea K f).annotations (Ea K f).code (Ea K f).closureTuple),(Nv K f).slots⟩/\
  codeIn K (Ea K f).code q=true/\keepIn K (.ref f)=true
theorem ZHT {K:Frag} {f:Addr} (h:Ue K x q f=true) (t:Ut K f=W6 st):FnSaid K x q st f:=by
 unfold Ue at h;split at h
 ·rename_i oc od fd sl e;have eo:Nv K f=⟨oc,od,.func fd,sl⟩:=by unfold Nv;rw [e]
  have ef:Ea K f=fd:=by unfold Ea;rw [eo]
  unfold Ut W6 at t;rw [ef] at t;obtain ⟨t1,t2⟩:=Prod.mk.inj t;obtain ⟨t2,t3⟩:=Prod.mk.inj t2;simp only [Bool.and_eq_true,decide_eq_true_eq,beq_iff_eq,List.isEmpty_iff] at h;obtain ⟨⟨⟨h1,h2⟩,⟨⟨h3,h4⟩,h5⟩,h6⟩,h7,h8⟩:=h;unfold FnSaid;rw [ef,eo,e];refine ⟨?_,h7,h8⟩;obtain ⟨nm,qn,ps,bd,sc,gl,cl,df,kd,dc,pm,an,cd,ct,bl⟩:=fd;dsimp only at t1 t2 t3 h1 h2 h3 h4 h5 h6;subst h1 h2 h3 h4 h5 t1 t3;have h6':df=.none:=by cases df <;> first | rfl | cases h6
  subst h6';have h9:bd=.stmts (J8 st):=by
   cases bd <;> first | (cases t2) | skip
   exact congrArg _ (Option.some.inj t2)
  subst h9
  rfl
 ·cases h
noncomputable def strsOf:List Value->Option (List Str)
 | []=>some []
 | .str s _::r=>(strsOf r).map (s::·)
 | _::_=>none
theorem ZGN:∀{l:List Value} {ss:List Str},strsOf l=some ss->Vals (ss.map V.str) l
 | [],ss,h=>by cases h;exact .nil
 | v::r,ss,h=>by
  unfold strsOf at h;split at h
  ·rename_i q;cases q
  ·rename_i s t r' q;cases q;obtain ⟨ss',h1,rfl⟩:=Option.map_eq_some_iff.mp h;exact .cons ⟨_,rfl⟩ (ZGN h1)
  ·cases h
noncomputable def ZB2 (K:Frag) (n:Str) (vs:List Str):Bool:=match nsIn K mainGlobals n with
 | some (some (.ref p))=>(match K.lookup p with
   | some ⟨.type t,_,.seq its _,_⟩=>t == "tuple" && decide (strsOf its.toList=some vs) && Nat.ble its.toList.length 1000
   | _=>false)
 | _=>false
noncomputable abbrev GtSaid (K:Frag) (n:Str) (vs:List Str):Prop:=∃(p:Addr) (od:Option Addr) (sl:Array (Option Value)) (k:Nat) (its:List Value),nsIn K mainGlobals n=some (some (.ref p))/\K.lookup p=some ⟨.type "tuple",od,.seq its.toArray k,sl⟩/\its.length<=1000/\Vals (vs.map V.str) its
theorem ZNV {K:Frag} {n:Str} {vs:List Str} (h:ZB2 K n vs=true):GtSaid K n vs:=by
 unfold ZB2 at h;split at h
 ·rename_i p e;split at h
  ·rename_i t od its k sl e2;simp only [Bool.and_eq_true,beq_iff_eq,decide_eq_true_eq] at h;obtain ⟨⟨rfl,h2⟩,h3⟩:=h;exact ⟨p,od,sl,k,its.toList,e,by rw [e2],Nat.le_of_ble_eq_true h3,ZGN h2⟩
  ·cases h
 ·cases h
inductive Ask where
 | fn (n:Str) (st:Stmt)
 | mt (c m q:Str) (st:Stmt)
 | cl (c:Str)
 | no (c x:Str)
 | z (n:Str)
 | gi (n:Str) (v:Int)
 | gs (n v:Str)
 | gt (n:Str) (vs:List Str)
noncomputable def Ask.chk (K:Frag):Ask->Bool
 | .fn n _=>gOk K n && Ue K n n (Bk K n)
 | .mt c m q _=>mOk K (Bk K c) m && Ue K m q (Hd K (Bk K c) m)
 | .cl c=>gOk K c && (plainGet K (Bk K c) Str.empty && hasDictIn K (Bk K c) && plainOver K (Bk K c)) && (ZCI K (Bk K c) && makesIn K (Bk K c) && keepIn K (.ref (Bk K c)))
 | .no c x=>noF K (Bk K c) x
 | .z n=>zOk K n
 | .gi n v=>iOk K n v
 | .gs n v=>sOk K n v
 | .gt n vs=>ZB2 K n vs
noncomputable def Ask.txt (K:Frag):Ask->Option DefTxt
 | .fn n _=>some (Ut K (Bk K n))
 | .mt c m _ _=>some (Ut K (Hd K (Bk K c) m))
 | _=>none
noncomputable def Ask.want:Ask->Option DefTxt
 | .fn _ st=>some (W6 st)
 | .mt _ _ _ st=>some (W6 st)
 | _=>none
noncomputable def Ask.Said (K:Frag):Ask->Prop
 | .fn n st=>nsIn K mainGlobals n=some (some (.ref (Bk K n)))/\FnSaid K n n st (Bk K n)
 | .mt c m q st=>findIn K (.ref (Bk K c)) m=some (some (.ref (Hd K (Bk K c) m)))/\isFn K (.ref (Hd K (Bk K c) m))=true/\FnSaid K m q st (Hd K (Bk K c) m)
 | .cl c=>nsIn K mainGlobals c=some (some (.ref (Bk K c)))/\plainGet K (Bk K c) Str.empty=true/\hasDictIn K (Bk K c)=true/\plainOver K (Bk K c)=true/\
   findIn K (.ref (Bk K c)) "__setattr__"=some (some (.builtin "object.__setattr__"))/\makesIn K (Bk K c)=true/\keepIn K (.ref (Bk K c))=true
 | .no c x=>findIn K (.ref (Bk K c)) x=some none
 | .z n=>nsIn K mainGlobals n=some none
 | .gi n v=>nsIn K mainGlobals n=some (some (.int v (Ej K n)))
 | .gs n v=>nsIn K mainGlobals n=some (some (.str v (Ej K n)))
 | .gt n vs=>GtSaid K n vs
theorem Ask.said {K:Frag}:∀{a:Ask},a.chk K=true->a.txt K=a.want->a.Said K
 | .fn n st,h,t=>by obtain ⟨h1,h2⟩:=Bool.and_eq_true_iff.mp h;exact ⟨ZDR h1,ZHT h2 (Option.some.inj t)⟩
 | .mt c m q st,h,t=>by obtain ⟨h1,h2⟩:=Bool.and_eq_true_iff.mp h;exact ⟨(ZEv h1).1,(ZEv h1).2,ZHT h2 (Option.some.inj t)⟩
 | .cl c,h,_=>by simp only [Ask.chk,Bool.and_eq_true] at h;obtain ⟨⟨h1,⟨h2,h3⟩,h4⟩,⟨h5,h6⟩,h7⟩:=h;exact ⟨ZDR h1,h2,h3,h4,ZIp h5,h6,h7⟩
 | .no c x,h,_=>ZNH h
 | .z n,h,_=>ZPB h
 | .gi n v,h,_=>ZNm h
 | .gs n v,h,_=>ZNp h
 | .gt n vs,h,_=>ZNV h
noncomputable def AllSaid (K:Frag):List Ask->Prop
 | []=>True
 | a::r=>a.Said K/\AllSaid K r
theorem ZEl {K:Frag}:∀{l:List Ask},(l.all (Ask.chk K),l.map (Ask.txt K))=(true,l.map Ask.want)->AllSaid K l
 | [],_=>trivial
 | a::r,h=>by obtain ⟨h1,h2⟩:=Prod.mk.inj h;rw [List.all_cons] at h1;obtain ⟨h3,h4⟩:=Bool.and_eq_true_iff.mp h1;rw [List.map_cons,List.map_cons] at h2;obtain ⟨h5,h6⟩:=List.cons.inj h2;exact ⟨Ask.said h3 h5,ZEl (by rw [h4,h6])⟩
noncomputable def ZBR (l:List Ask) (h:Heap):Bool×List (Option DefTxt):=(l.all (Ask.chk (Tg h)),l.map (Ask.txt (Tg h)))
noncomputable abbrev ZAw (l:List Ask):Bool×List (Option DefTxt):=(true,l.map Ask.want)
theorem ZNU {K:Frag} {a:Str} {f:Addr} {fd:FuncData} {s:Shared} {v:Value} (F:Fun K x q st f fd)
  (h:∀(kV doc pm:Value) (an:Option Addr) (cdv ct:Value) (u:Value),bindArgs (fnOf x q (Lg st) (J8 st) (Av st) .none kV doc pm an cdv ct) ⟨[u],[]⟩=pure [(a,u)]):BindsTo s fd ⟨[v],[]⟩ [(a,v)]:=by
 obtain ⟨oc,od,kV,doc,pm,an,cdv,ct,osl,rfl,lk,hcd⟩:=F.ex;exact .of_eq (h kV doc pm an cdv ct v)
noncomputable def Xc (p:Program) (w:World) (n₀:Nat) (ann:Option Value):Nat->SharedT->Thread->Option SharedT
 | 0,_,_=>none
 | n + 1,s,t=>match through t with
  | true=>some s
  | false=>match PySem.W.Fast.tw6613529449190102663 n₀ ann t with
   | false=>none
   | true=>match PySem.W.Fast.tw10156331382660048174 (PySem.W.Fast.tw11892475500146522536 PySem.W.Fast.tw14364793385576792824) p w s t with
    | some (s',t')=>Xc p w n₀ ann n s' t'
    | none=>none
theorem ZFn {p:Program} {w:World} {n₀:Nat} {ann:Option Value}:∀{n:Nat} {s s':SharedT} {t:Thread},Xc p w n₀ ann n s t=some s'->topRun treeTable p w n₀ ann n s.abs t=some s'.abs
 | 0,_,_,_,h=>by cases h
 | n + 1,s,s',t,h=>by
  unfold Xc at h;unfold topRun;rw [<-PySem.W.Fast.te6613529449190102663,<-PySem.W.Fast.te10156331382660048174,<-PySem.W.Fast.te11892475500146522536,<-PySem.W.Fast.te14364793385576792824] at h;cases ht:through t with
  | true=>
   rw [ht] at h;cases h
   rfl
  | false=>
   rw [ht] at h;dsimp only at h ⊢;cases ho:stepOk n₀ ann t with
   | false=>rw [ho] at h;cases h
   | true=>
    rw [ho] at h;dsimp only at h ⊢;split at h
    ·rename_i s2 t2 e;rw [stepT_spec e];exact ZFn h
    ·cases h
noncomputable def ZGU:List Obj->Nat->BT->BT
 | [],_,t=>t
 | o::r,n,t=>ZGU r (n + 1) (t.ins n o)
noncomputable def ZGf (w:World) (os:OsState):SharedT:=⟨ZGU (boot_heap w.params).objs.toList 0 .nil,(boot_heap w.params).objs.size,(boot_heap w.params).life,Array.mk [],boot_drawn,boot_toks,os⟩
theorem boot_abs:∀w os,(ZGf w os).abs=⟨boot_heap w.params,Array.mk [],boot_drawn,boot_toks,os⟩:=λw os=>by kernel_rfl
theorem ZOs:∀w:World,((boot_heap w.params).isNs mainGlobals && (Array.mk []:Array GenState).size == 0)=true:=λw=>by kernel_rfl
noncomputable def ZB4 (p:Program) (w:World) (os:OsState):Option SharedT:=Xc p w (boot_heap w.params).objs.size (PySem.W.Fast.tw8920871248978507458 (boot_heap w.params) mainGlobals "__annotations__") 100000 (ZGf w os) (topStub p)
noncomputable def Zy (p:Program) (w:World) (s:Shared):Bool:=staticsOk (PySem.W.Fast.tw5923862056798008813 p.main.body) (boot_heap w.params) s.heap && namesBound p s.heap && gensDone s && laidKept (boot_heap w.params) s.heap
theorem ZMp {p q:Program} {loose:List Str} {Xt:Shared->Bool} {β:Type} {see:Heap->β} {val:β} (e:opening p=plainProg p.main.scope.names) (f:∀s,fenceModules? p s=some s)
  (R:∀w os,(ZB4 p w os).map (λs=>(Zy p w s.abs,PySem.W.Fast.tw4187177175401517315 q loose (PySem.W.Fast.tw5923862056798008813 p.main.body) Xt true s.abs,see s.abs.heap))=some (true,openGood q loose,val)):
  ∀w,(openEnds treeTable p w 100000).map (λs=>(openSeen q loose (importedModules p.main.body) Xt true s,see s.heap))=some (openGood q loose,val):=λw=>by
 obtain ⟨⟨h,gs,d,k,os⟩,h0,e0⟩:=Option.map_eq_some_iff.mp (boot_open (N:=100000) e rfl f w);obtain ⟨rfl,rfl,rfl,rfl⟩:h=boot_heap w.params/\gs=Array.mk []/\d=boot_drawn/\k=boot_toks:=by simpa using e0
 obtain ⟨s,h1,h2⟩:=Option.map_eq_some_iff.mp (R w os);obtain ⟨h3,h4⟩:=Prod.mk.inj h2;obtain ⟨h4,h5⟩:=Prod.mk.inj h4;unfold ZB4 at h1;have r:=ZFn h1;rw [boot_abs,<-PySem.W.Fast.te8920871248978507458] at r;rw [<-PySem.W.Fast.te4187177175401517315,<-PySem.W.Fast.te5923862056798008813] at h4;unfold Zy at h3;rw [<-PySem.W.Fast.te5923862056798008813] at h3;have t:topFrom treeTable p w 100000 ⟨boot_heap w.params,Array.mk [],boot_drawn,boot_toks,os⟩=some s.abs:=by
  unfold topFrom;dsimp only;rw [ZOs,r]
  show (match staticsOk (importedModules p.main.body) (boot_heap w.params) s.abs.heap && namesBound p s.abs.heap && gensDone s.abs && laidKept (boot_heap w.params) s.abs.heap with | true=>_ | false=>_)=_
  rw [h3]
 unfold openEnds;rw [h0];show (topFrom treeTable p w 100000 _).map _=_;rw [t];exact congrArg some (Prod.ext h4 h5)
theorem ZPr {l:OpenLaw} (h:PySem.W.Fast.tw9446332074065402090 l=true):l.wellSaid=true:=by rw [PySem.W.Fast.te9446332074065402090];exact h
structure FT (K:Frag) (mg:Str->Option Value) (n:Str) (st:Stmt) (ps:List Str):Prop where
 F:Fun K n n st (Bk K n) (Ea K (Bk K n))
 b:Binds K (Ea K (Bk K n)) ps []
 m:mg n=some (.ref (Bk K n))
 k:keepIn K (.ref (Bk K n))=true
structure MT (K:Frag) (c m q:Str) (st:Stmt) (ps:List Str):Prop where
 F:Fun K m q st (Hd K (Bk K c) m) (Ea K (Hd K (Bk K c) m))
 b:Binds K (Ea K (Hd K (Bk K c) m)) ps []
 me:Meth K (Bk K c) m (Hd K (Bk K c) m)
structure CT (K:Frag) (mg:Str->Option Value) (c:Str):Prop where
 N:nsIn K mainGlobals c=some (some (.ref (Bk K c)))
 cl:Cls K (Bk K c)
 g:mg c=some (.ref (Bk K c))
 mK:Mk K (Bk K c) (Hd K (Bk K c) "__init__")
theorem U6 {K:Frag} {f:Addr} (s:FnSaid K x q st f):Fun K x q st f (Ea K f):=by
 have e:Ea K f=fnOf x q (Lg st) (J8 st) (Av st) .none (Ea K f).kwdefaults (Ea K f).doc (Ea K f).pyModule (Ea K f).annotations (Ea K f).code (Ea K f).closureTuple:=by
  have h:=s.1
  conv=>lhs;unfold Ea Nv;rw [h]
 exact ⟨⟨_,_,_,_,_,_,_,_,_,e,by rw [e];exact s.1,s.2.1⟩,s.2.2⟩
theorem Cz {K:Frag} {mg:Str->Option Value} {n:Str} {ps:List Str} (X:K.In h) (G:h.Ns mainGlobals mg) (s:Ask.Said K (.fn n st))
  (hb:∀(kV doc pm:Value) (an:Option Addr) (cdv ct:Value) (us:List Value),us.length=ps.length->bindArgs (fnOf n n (Lg st) (J8 st) (Av st) .none kV doc pm an cdv ct) ⟨us,[]⟩=pure (ps.zip us)):FT K mg n st ps:=
 ⟨U6 s.2,(U6 s.2).binds hb,mg_of X G s.1,s.2.2.2⟩
theorem Nt {K:Frag} {c:Str} {ps:List Str} (s:Ask.Said K (.mt c m q st))
  (hb:∀(kV doc pm:Value) (an:Option Addr) (cdv ct:Value) (us:List Value),us.length=ps.length->bindArgs (fnOf m q (Lg st) (J8 st) (Av st) .none kV doc pm an cdv ct) ⟨us,[]⟩=pure (ps.zip us)):MT K c m q st ps:=
 ⟨U6 s.2.2,(U6 s.2.2).binds hb,s.1,s.2.1,s.2.2.2.2⟩
theorem ZNL {K:Frag} {mg:Str->Option Value} {c:Str} (X:K.In h) (G:h.Ns mainGlobals mg) (s:Ask.Said K (.cl c)) (i:Ask.Said K (.mt c "__init__" q st)):CT K mg c:=
 ⟨s.1,⟨s.2.1,s.2.2.1,s.2.2.2.1,s.2.2.2.2.1⟩,mg_of X G s.1,s.2.2.2.2.2.1,i.1,i.2.1,s.2.2.2.2.2.2⟩
noncomputable abbrev FnO (P:Program) (w:World) (K:Frag) (mg:Str->Option Value) (base:Heap) (k:Nat) (n:Str) (ps:List Str) (F:List D->DH->R D):Prop:=FnOk P w K mg base CX0 k (Bk K n) (Ea K (Bk K n)) ps (lF K F)
noncomputable abbrev MtO (P:Program) (w:World) (K:Frag) (mg:Str->Option Value) (base:Heap) (k:Nat) (c m:Str) (ps:List Str) (F:List D->DH->R D):Prop:=FnOk P w K mg base CX0 k (Hd K (Bk K c) m) (Ea K (Hd K (Bk K c) m)) ps (lF K F)
theorem ZPY {K:Frag} {fd:FuncData} {s:Shared} {v:Value} {a:Str} {f:Addr} (F:Fun K x q st f fd)
  (h:∀(kV doc pm:Value) (an:Option Addr) (cdv ct:Value) (u:Value),bindArgs (fnOf x q (Lg st) (J8 st) (Av st) .none kV doc pm an cdv ct) ⟨[u],[]⟩=pure [(a,u)]:=by intros;rfl):BindsTo s fd ⟨[v],[]⟩ [(a,v)]:=ZNU F h
end DL
namespace Law
open PySem L2 DL
noncomputable def top (i:Nat):Stmt:=PySem.Challenge.pw_sluiceway_k37_whole_no_cube_is_lost.main.body.getD i (.Pass ⟨0,0,0,0⟩)
noncomputable def fuel:Nat:=100000
noncomputable def inC (s:Stmt) (j:Nat):Stmt:=match s with
 | .ClassDef _ _ _ body _ _ _ _ _ _ _=>body.getD j (.Pass ⟨0,0,0,0⟩)
 | _=>.Pass ⟨0,0,0,0⟩
noncomputable abbrev ZCA:Stmt:=top 42
noncomputable abbrev ZFa:List Str:= ["_law_number_here","_law_k","_law_digit"]
noncomputable abbrev ZCl:List Str:=ZFa.take 2
theorem R6:FnScope ZFa ZCl (Av ZCA):=⟨rfl,rfl,rfl,by decide +kernel,rfl,by decide +kernel,by decide +kernel⟩
noncomputable abbrev Zt:Stmt:=top 41
noncomputable abbrev ZD4:List Str:= ["_law_script"]
noncomputable abbrev Yd:List Str:=ZD4.take 1
theorem ZNZ:FnScope ZD4 Yd (Av Zt):=⟨rfl,rfl,rfl,by decide +kernel,rfl,by decide +kernel,by decide +kernel⟩
noncomputable abbrev ZBw:Stmt:=top 43
noncomputable abbrev ZGm:List Str:= ["_law_script","_law_k","_law_number_here"]
noncomputable abbrev ZCc:List Str:=ZGm.take 2
theorem T8:FnScope ZGm ZCc (Av ZBw):=⟨rfl,rfl,rfl,by decide +kernel,rfl,by decide +kernel,by decide +kernel⟩
noncomputable abbrev ZA1:Stmt:=top 46
noncomputable abbrev ZHk:List Str:= ["_law_cell","_law_unit_here"]
noncomputable abbrev ZCX:List Str:=ZHk.take 2
theorem ZMK:FnScope ZHk ZCX (Av ZA1):=⟨rfl,rfl,rfl,by decide +kernel,rfl,by decide +kernel,by decide +kernel⟩
noncomputable abbrev ZBt:Stmt:=top 45
noncomputable abbrev ZGb:List Str:= ["_law_script"]
noncomputable abbrev ZBn:List Str:=ZGb.take 1
theorem ZK6:FnScope ZGb ZBn (Av ZBt):=⟨rfl,rfl,rfl,by decide +kernel,rfl,by decide +kernel,by decide +kernel⟩
noncomputable abbrev Sv:Stmt:=top 54
noncomputable abbrev Uw:List Str:= ["_law_script","_law_house_here","_law_turns","_law_many","_law_b","_law_floods_here","_law_at","_law_cells"]
noncomputable abbrev ZAF:List Str:=Uw.take 3
theorem Qs:FnScope Uw ZAF (Av Sv):=⟨rfl,rfl,rfl,by decide +kernel,rfl,by decide +kernel,by decide +kernel⟩
noncomputable abbrev ZAa:Stmt:=top 50
noncomputable abbrev ZGl:List Str:= ["_law_steps_here","_law_total","_law_low","_law_many","_law_way"]
noncomputable abbrev ZBG:List Str:=ZGl.take 1
theorem Qe:FnScope ZGl ZBG (Av ZAa):=⟨rfl,rfl,rfl,by decide +kernel,rfl,by decide +kernel,by decide +kernel⟩
noncomputable abbrev ZCT:Stmt:=top 48
noncomputable abbrev ZEg:List Str:= ["_law_cells","_law_unit_here","_law_pumps","_law_steps_here","_law_low","_law_k","_law_many","_law_way"]
noncomputable abbrev ZCB:List Str:=ZEg.take 3
theorem Ku:FnScope ZEg ZCB (Av ZCT):=⟨rfl,rfl,rfl,by decide +kernel,rfl,by decide +kernel,by decide +kernel⟩
noncomputable abbrev Zg:Stmt:=top 47
noncomputable abbrev ZG8:List Str:= ["_law_script","_law_cell"]
noncomputable abbrev ZAl:List Str:=ZG8.take 1
theorem ZDV:FnScope ZG8 ZAl (Av Zg):=⟨rfl,rfl,rfl,by decide +kernel,rfl,by decide +kernel,by decide +kernel⟩
noncomputable abbrev Sh:Stmt:=top 49
noncomputable abbrev Xx:List Str:= ["_law_script","_law_b","_law_unit_here","_law_pumps","_law_year_here","_law_rule_here","_law_begin","_law_j","_law_later","_law_cells"]
noncomputable abbrev ZA0:List Str:=Xx.take 4
theorem Jq:FnScope Xx ZA0 (Av Sh):=⟨rfl,rfl,rfl,by decide +kernel,rfl,by decide +kernel,by decide +kernel⟩
noncomputable abbrev Wk:Stmt:=top 51
noncomputable abbrev Z6:List Str:= ["_law_script","_law_b","_law_k","_law_names","_law_river","_law_unit_here","_law_cell","_law_pumps","_law_rule_here","_law_pump","_law_most","_law_to","_law_brim"]
noncomputable abbrev ZBu:List Str:=Z6.take 5
theorem Jt:FnScope Z6 ZBu (Av Wk):=⟨rfl,rfl,rfl,by decide +kernel,rfl,by decide +kernel,by decide +kernel⟩
noncomputable abbrev ZCZ:Stmt:=top 44
noncomputable abbrev ZGY:List Str:= ["_law_cell","_law_k","_law_many","_law_other","_law_telling"]
noncomputable abbrev Ys:List Str:=ZGY.take 3
theorem ZCV:FnScope ZGY Ys (Av ZCZ):=⟨rfl,rfl,rfl,by decide +kernel,rfl,by decide +kernel,by decide +kernel⟩
noncomputable abbrev V6:Stmt:=top 52
noncomputable abbrev ZCy:List Str:= ["_law_script","_law_first","_law_many","_law_names","_law_k","_law_places","_law_b","_law_step","_law_delay","_law_river","_law_kind","_law_amount_here","_law_rank"]
noncomputable abbrev ZAD:List Str:=ZCy.take 1
theorem Gu:FnScope ZCy ZAD (Av V6):=⟨rfl,rfl,rfl,by decide +kernel,rfl,by decide +kernel,by decide +kernel⟩
noncomputable abbrev ZCS:Stmt:=top 60
noncomputable abbrev ZFm:List Str:= ["_law_house_here","_law_page_here","_law_k","_law_row","_law_most"]
noncomputable abbrev ZAn:List Str:=ZFm.take 2
theorem Uu:FnScope ZFm ZAn (Av ZCS):=⟨rfl,rfl,rfl,by decide +kernel,rfl,by decide +kernel,by decide +kernel⟩
noncomputable abbrev ZAW:Stmt:=top 55
noncomputable abbrev ZFW:List Str:= ["_law_script","_law_cell"]
noncomputable abbrev ZB5:List Str:=ZFW.take 1
theorem ZF6:FnScope ZFW ZB5 (Av ZAW):=⟨rfl,rfl,rfl,by decide +kernel,rfl,by decide +kernel,by decide +kernel⟩
noncomputable abbrev ZBk:Stmt:=top 56
noncomputable abbrev ZG5:List Str:= ["_law_number_here"]
noncomputable abbrev ZC0:List Str:=ZG5.take 1
theorem ZJW:FnScope ZG5 ZC0 (Av ZBk):=⟨rfl,rfl,rfl,by decide +kernel,rfl,by decide +kernel,by decide +kernel⟩
noncomputable abbrev Ws:Stmt:=top 57
noncomputable abbrev ZAE:List Str:= ["_law_page_here","_law_many","_law_row"]
noncomputable abbrev Zf:List Str:=ZAE.take 2
theorem ZEQ:FnScope ZAE Zf (Av Ws):=⟨rfl,rfl,rfl,by decide +kernel,rfl,by decide +kernel,by decide +kernel⟩
noncomputable abbrev ZAM:Stmt:=top 53
noncomputable abbrev ZDp:List Str:= ["_law_script","_law_house_here","_law_places","_law_unit_here","_law_b","_law_levels","_law_coming","_law_k","_law_level","_law_cell","_law_row","_law_j"]
noncomputable abbrev Yl:List Str:=ZDp.take 2
theorem Ig:FnScope ZDp Yl (Av ZAM):=⟨rfl,rfl,rfl,by decide +kernel,rfl,by decide +kernel,by decide +kernel⟩
noncomputable abbrev V3:Stmt:=top 59
noncomputable abbrev ZAx:List Str:= ["_law_state_here"]
noncomputable abbrev Zc:List Str:=ZAx.take 1
theorem ZMs:FnScope ZAx Zc (Av V3):=⟨rfl,rfl,rfl,by decide +kernel,rfl,by decide +kernel,by decide +kernel⟩
noncomputable abbrev U8:Stmt:=top 58
noncomputable abbrev Wg:List Str:= ["_law_state_here","_law_many","_law_row"]
noncomputable abbrev ZCH:List Str:=Wg.take 2
theorem ZC8:FnScope Wg ZCH (Av U8):=⟨rfl,rfl,rfl,by decide +kernel,rfl,by decide +kernel,by decide +kernel⟩
noncomputable abbrev T7:Stmt:=inC (top 36) 0
noncomputable abbrev X6:List Str:= ["self","house","state","at","flood","levels","coming"]
noncomputable abbrev ZB9:List Str:=X6.take 5
theorem ZCR:FnScope X6 ZB9 (Av T7):=⟨rfl,rfl,rfl,by decide +kernel,rfl,by decide +kernel,by decide +kernel⟩
noncomputable abbrev ZBM:Stmt:=inC (top 36) 5
noncomputable abbrev ZGH:List Str:= ["self","to","delay","cubes"]
noncomputable abbrev ZBT:List Str:=ZGH.take 4
theorem ZNQ:FnScope ZGH ZBT (Av ZBM):=⟨rfl,rfl,rfl,by decide +kernel,rfl,by decide +kernel,by decide +kernel⟩
noncomputable abbrev ZAj:Stmt:=top 18
noncomputable abbrev ZFv:List Str:= ["house","name","number","place"]
noncomputable abbrev Yk:List Str:=ZFv.take 2
theorem ZB7:FnScope ZFv Yk (Av ZAj):=⟨rfl,rfl,rfl,by decide +kernel,rfl,by decide +kernel,by decide +kernel⟩
noncomputable abbrev ZBs:Stmt:=top 19
noncomputable abbrev ZHQ:List Str:= ["house","place","name"]
noncomputable abbrev ZCF:List Str:=ZHQ.take 2
theorem ZGv:FnScope ZHQ ZCF (Av ZBs):=⟨rfl,rfl,rfl,by decide +kernel,rfl,by decide +kernel,by decide +kernel⟩
noncomputable abbrev ZAC:Stmt:=inC (top 36) 4
noncomputable abbrev ZHb:List Str:= ["self","number","cubes","down"]
noncomputable abbrev ZBK:List Str:=ZHb.take 3
theorem ZGa:FnScope ZHb ZBK (Av ZAC):=⟨rfl,rfl,rfl,by decide +kernel,rfl,by decide +kernel,by decide +kernel⟩
noncomputable abbrev ZBp:Stmt:=top 31
noncomputable abbrev ZE1:List Str:= ["stairs","water","river","pump","height","many","way","cubes"]
noncomputable abbrev ZB3:List Str:=ZE1.take 2
theorem Ky:FnScope ZE1 ZB3 (Av ZBp):=⟨rfl,rfl,rfl,by decide +kernel,rfl,by decide +kernel,by decide +kernel⟩
noncomputable abbrev ZCr:Stmt:=top 30
noncomputable abbrev ZGi:List Str:= ["rule","turn","held","first","stairs"]
noncomputable abbrev ZAy:List Str:=ZGi.take 2
theorem U9:FnScope ZGi ZAy (Av ZCr):=⟨rfl,rfl,rfl,by decide +kernel,rfl,by decide +kernel,by decide +kernel⟩
noncomputable abbrev ZCb:Stmt:=inC (top 36) 2
noncomputable abbrev ZFI:List Str:= ["self","number","place","came","let","pumped","stays","lies","spilled"]
noncomputable abbrev ZAU:List Str:=ZFI.take 2
theorem M9:FnScope ZFI ZAU (Av ZCb):=⟨rfl,rfl,rfl,by decide +kernel,rfl,by decide +kernel,by decide +kernel⟩
noncomputable abbrev Wn:Stmt:=top 26
noncomputable abbrev Yo:List Str:= ["rows","takes","passing","row","number"]
noncomputable abbrev ZBA:List Str:=Yo.take 2
theorem Ui:FnScope Yo ZBA (Av Wn):=⟨rfl,rfl,rfl,by decide +kernel,rfl,by decide +kernel,by decide +kernel⟩
noncomputable abbrev ZBX:Stmt:=top 38
noncomputable abbrev ZD1:List Str:= ["house","number","places","down"]
noncomputable abbrev ZAZ:List Str:=ZD1.take 2
theorem ZAf:FnScope ZD1 ZAZ (Av ZBX):=⟨rfl,rfl,rfl,by decide +kernel,rfl,by decide +kernel,by decide +kernel⟩
noncomputable abbrev ZBo:Stmt:=top 39
noncomputable abbrev ZHn:List Str:= ["house","members","came","rows","number","place","down","row_down"]
noncomputable abbrev ZCx:List Str:=ZHn.take 3
theorem Pn:FnScope ZHn ZCx (Av ZBo):=⟨rfl,rfl,rfl,by decide +kernel,rfl,by decide +kernel,by decide +kernel⟩
noncomputable abbrev Rx:Stmt:=top 27
noncomputable abbrev Wi:List Str:= ["rows","order"]
noncomputable abbrev ZAs:List Str:=Wi.take 1
theorem ZEe:FnScope Wi ZAs (Av Rx):=⟨rfl,rfl,rfl,by decide +kernel,rfl,by decide +kernel,by decide +kernel⟩
noncomputable abbrev Zi:Stmt:=top 28
noncomputable abbrev ZER:List Str:= ["rows","number","way","down"]
noncomputable abbrev ZBD:List Str:=ZER.take 2
theorem W0:FnScope ZER ZBD (Av Zi):=⟨rfl,rfl,rfl,by decide +kernel,rfl,by decide +kernel,by decide +kernel⟩
noncomputable abbrev Uo:Stmt:=top 25
noncomputable abbrev Zb:List Str:= ["rows","takes","passing","number","way","take","below"]
noncomputable abbrev ZBN:List Str:=Zb.take 1
theorem My:FnScope Zb ZBN (Av Uo):=⟨rfl,rfl,rfl,by decide +kernel,rfl,by decide +kernel,by decide +kernel⟩
noncomputable abbrev ZCM:Stmt:=inC (top 36) 3
noncomputable abbrev ZEy:List Str:= ["self","members","rows","takes","number","took","let"]
noncomputable abbrev ZAq:List Str:=ZEy.take 2
theorem Om:FnScope ZEy ZAq (Av ZCM):=⟨rfl,rfl,rfl,by decide +kernel,rfl,by decide +kernel,by decide +kernel⟩
noncomputable abbrev ZAS:Stmt:=top 37
noncomputable abbrev ZFB:List Str:= ["house","lasts","number","down"]
noncomputable abbrev Zn:List Str:=ZFB.take 1
theorem Up:FnScope ZFB Zn (Av ZAS):=⟨rfl,rfl,rfl,by decide +kernel,rfl,by decide +kernel,by decide +kernel⟩
noncomputable abbrev Wf:Stmt:=inC (top 36) 1
noncomputable abbrev Yx:List Str:= ["self","lasts","number","last"]
noncomputable abbrev Zw:List Str:=Yx.take 1
theorem Xl:FnScope Yx Zw (Av Wf):=⟨rfl,rfl,rfl,by decide +kernel,rfl,by decide +kernel,by decide +kernel⟩
noncomputable abbrev Rj:Stmt:=inC (top 36) 6
noncomputable abbrev Vw:List Str:= ["self"]
noncomputable abbrev Z3:List Str:=Vw.take 1
theorem ZPt:FnScope Vw Z3 (Av Rj):=⟨rfl,rfl,rfl,by decide +kernel,rfl,by decide +kernel,by decide +kernel⟩
noncomputable abbrev ZA5:Stmt:=top 34
noncomputable abbrev ZHZ:List Str:= ["house","state","at","flood","course"]
noncomputable abbrev ZBm:List Str:=ZHZ.take 4
theorem ZEx:FnScope ZHZ ZBm (Av ZA5):=⟨rfl,rfl,rfl,by decide +kernel,rfl,by decide +kernel,by decide +kernel⟩
noncomputable abbrev ZB0:Stmt:=top 35
noncomputable abbrev ZGj:List Str:= ["house","state","at","floods","pages","number","flood","page"]
noncomputable abbrev ZCv:List Str:=ZGj.take 4
theorem Pg:FnScope ZGj ZCv (Av ZB0):=⟨rfl,rfl,rfl,by decide +kernel,rfl,by decide +kernel,by decide +kernel⟩
noncomputable abbrev Io:Stmt:=top 61
noncomputable abbrev ZCz:List Str:= ["_law_script","_law_house_here","_law_state_here","_law_floods_here","_law_pages","_law_behind","_law_left","_law_page_here","_law_k"]
noncomputable abbrev ZBC:List Str:=ZCz.take 1
theorem Jl:FnScope ZCz ZBC (Av Io):=⟨rfl,rfl,rfl,by decide +kernel,rfl,by decide +kernel,by decide +kernel⟩
noncomputable def Tu:DS:=(sAs (dOp Dg (dV 0) (dOp Jr (dC (.int 10)) (dC (.int 8)))) (gV 0))
noncomputable def Zm:DS:=(Ah (sIf (Aw (Uh Ug K4 (dC (.int 0)) (dV 0) (dOp Jr (dC (.int 10)) (dC (.int 18))))) (Ah (sAs (dOp Bo (dOp Ay (dOp Ay (dV 0) (dOp Bs (dC (.int 1009)) (dV 1))) (dC (.int 7))) (dC (.int 999999937))) (gV 0)) (Ah (sAs (dOp Bo (dOp Bs (dV 0) (dV 0)) (dC (.int 999999929))) (gV 0)) (sRt (dOp Bo (dOp Bs (dV 0) (dOp Ay (dV 0) (dV 1))) (dC (.int 99999989)))))) sNx) (Ah (Du (Dl rng1 (Ab (dV 1) Ae)) (gV 2) Tu) (sRt (dOp Bo (dV 0) (dOp Jr (dC (.int 10)) (dC (.int 8)))))))
noncomputable def Tq:List D->DH->R D:=Bv 2 1 Zm
noncomputable def ZAm:DS:=(sRt (N7 (dOp Je (dFn Dc (Ab (dV 0) Ae)) (dC (.int 0))) (Zx (dOp K4 (dOp Aj (dV 0) (dC (.int 0))) (dC (.int 0))) (dOp Xj (dOp Aj (dV 0) (dC (.int 0))) (dOp Jr (dC (.int 10)) (dC (.int 18)))))))
noncomputable def N5:List D->DH->R D:=Bv 1 0 ZAm
noncomputable def Oj:DS:=(Ah (sIf (Aw (dFn N5 (Ab (dV 0) Ae))) (Ah (sAs (dC (.int 0)) (gV 2)) (Ah (sIf (Aw (dOp K4 (dOp Ay (dC (.int 1)) (dOp Dg (dV 1) (dC (.int 14)))) (dFn Dc (Ab (dV 0) Ae)))) (sAs (dOp Aj (dV 0) (dOp Ay (dC (.int 1)) (dOp Dg (dV 1) (dC (.int 14))))) (gV 2)) sNx) (sRt (dFn Tq (Ab (dV 2) (Ab (dOp Bo (dV 1) (dC (.int 14))) Ae)))))) sNx) (Ah (sIf (Aw (dOp K4 (dV 1) (dFn Dc (Ab (dV 0) Ae)))) (sRt (dOp Aj (dV 0) (dV 1))) sNx) (Ah (sAs (dOp Bo (dOp Bs (dC (.int 48271)) (dOp Ay (dOp Bs (dV 1) (dV 1)) (dOp Bs (dC (.int 7)) (dFn Dc (Ab (dV 0) Ae))))) (dC (.int 2147483647))) (gV 2)) (Ah (sIf (Aw (dOp Je (dFn Dc (Ab (dV 0) Ae)) (dC (.int 0)))) (sAs (dOp Ay (dV 2) (dOp Bo (dOp Bs (dOp Aj (dV 0) (dOp Bo (dV 1) (dFn Dc (Ab (dV 0) Ae)))) (dC (.int 69621))) (dC (.int 2147483629)))) (gV 2)) sNx) (sRt (dV 2))))))
noncomputable def Bg:List D->DH->R D:=Bv 2 1 Oj
noncomputable def ZFR:DS:=(sRt (dOp Ay (dOp Bs (dV 1) (dOp Bo (dV 0) (dC (.int 7)))) (dOp Bo (dOp Dg (dV 0) (dC (.int 7))) (dV 1))))
noncomputable def Mz:List D->DH->R D:=Bv 2 0 ZFR
noncomputable def Xa:DS:=(sRt (dOp Aj (Ck (dFn Ar (Ab (dC (.int 1)) (Ab (dC (.int 1)) (Ab (dOp Jr (dC (.int 10)) (dC (.int 30))) Ae))))) (dOp Bo (dOp Dg (dFn Bg (Ab (dV 0) (Ab (dC (.int 0)) Ae))) (dC (.int 840))) (dC (.int 3)))))
noncomputable def Gs:List D->DH->R D:=Bv 1 0 Xa
noncomputable def ZBO:DE:=(dFn Bg (Ab (dV 1) (Ab (dOp Ay (dOp Ay (dV 3) (dOp Bs (dV 4) (dV 2))) (dV 0)) Ae)))
noncomputable def ZCa:DE:=(dFn Mz (Ab (dV 0) (Ab (Ck (dFn Gs (Ab (dV 1) Ae))) Ae)))
noncomputable def T4:DS:=(Ah (sAs (Ck (Eh (Dl rng1 (Ab (dV 3) Ae)) 1 [0,3,4,6] (gV 0) Ce ZBO)) (gV 7)) (sEx (G8 Fy (dV 5) (Ab (dFn H9 (Ab (Ck (Eh (Ep (dV 7)) 1 [0] (gV 0) Ce ZCa)) Ae)) Ae))))
noncomputable def ZGQ:DS:=(Ah (sAs (dFn Dc (Ab (dOp Aj (dV 1) (dC (.int 1))) Ae)) (gV 3)) (Ah (sAs (dOp Ay (dC (.int 6)) (dOp Bs (dC (.int 14)) (dV 3))) (gV 4)) (Ah (sAs (Ff (dFn Ar Ae)) (gV 5)) (Ah (Du (Dl rng1 (Ab (dV 2) Ae)) (gV 6) T4) (sRt (dV 5))))))
noncomputable def Vr:List D->DH->R D:=Bv 3 5 ZGQ
noncomputable def Xz:DS:=(sIf (Aw (dOp Dj (dV 4) (dC (.str "pump")))) (sAs (dOp Ay (dV 1) (dV 3)) (gV 1)) sNx)
noncomputable def ZE5:DS:=(Ah (sAs (dC (.int 0)) (gV 1)) (Ah (Du (Ep (dV 0)) (Bw 3 (Aq (gV 2) (Aq (gV 3) (Aq (gV 4) Cg)))) Xz) (sRt (dV 1))))
noncomputable def Xr:List D->DH->R D:=Bv 1 4 ZE5
noncomputable def U3:DS:=(Ah (sAs (dOp Ay (dV 4) (dOp Bs (dV 1) (dOp Bo (dOp Aj (dV 0) (dOp Ay (dC (.int 1)) (dV 5))) (dC (.int 4))))) (gV 4)) (Ah (sAs (dOp Ay (dC (.int 1)) (dOp Bs (dV 1) (dOp Bo (dOp Dg (dOp Aj (dV 0) (dOp Ay (dC (.int 1)) (dV 5))) (dC (.int 4))) (dC (.int 4))))) (gV 6)) (Ah (sAs (dC (.str "river")) (gV 7)) (Ah (sIf (K5 (Aw (dV 2)) (Aw (dOp Dj (dOp Bo (dOp Dg (dOp Aj (dV 0) (dOp Ay (dC (.int 1)) (dV 5))) (dC (.int 16))) (dC (.int 2))) (dC (.int 1))))) (sAs (dC (.str "pump")) (gV 7)) sNx) (Ah (sEx (G8 Fy (dV 3) (Ab (dFn Bq (Ab (dV 4) (Ab (dV 6) (Ab (dV 7) Ae)))) Ae))) (sAs (dOp Ay (dV 4) (dV 6)) (gV 4)))))))
noncomputable def ZG2:DS:=(Ah (sAs (Ff (dFn Ar Ae)) (gV 3)) (Ah (sAs (dC (.int 0)) (gV 4)) (Ah (Du (Dl rng1 (Ab (dOp Bo (dOp Aj (dV 0) (dC (.int 0))) (dC (.int 4))) Ae)) (gV 5) U3) (sRt (dFn H9 (Ab (dV 3) Ae))))))
noncomputable def Y8:List D->DH->R D:=Bv 3 5 ZG2
noncomputable def ZBW:DS:=(Ah (sAs (dFn Bg (Ab (dV 0) (Ab (dC (.int 1)) Ae))) (gV 1)) (Ah (sIf (Aw (dOp Dj (dOp Bo (dOp Dg (dV 1) (dC (.int 4))) (dC (.int 4))) (dC (.int 1)))) (sRt (dOp Ay (dC (.int 1)) (dOp Bo (dOp Dg (dV 1) (dC (.int 16))) (dC (.int 24))))) sNx) (sRt (dOp Ay (dC (.int 1)) (dOp Bo (dV 1) (dC (.int 4)))))))
noncomputable def K6:List D->DH->R D:=Bv 1 1 ZBW
noncomputable def ZAY:DE:=(dOp Dg (dFn Bg (Ab (dV 1) (Ab (dOp Ay (dOp Ay (dV 2) (dC (.int 5))) (dOp Bo (dOp Ay (dOp Bs (dC (.int 3)) (dV 3)) (dV 0)) (dC (.int 6)))) Ae))) (dOp Ay (dC (.int 1)) (dOp Bs (dC (.int 7)) (dOp Dg (dV 3) (dC (.int 2))))))
noncomputable def ZBb:DE:=(dOp Dg (dFn Bg (Ab (dV 1) (Ab (dOp Ay (dOp Ay (dV 2) (dC (.int 5))) (dV 0)) Ae))) (dOp Aj (Ck (dFn Ar (Ab (dC (.int 1)) (Ab (dC (.int 64)) (Ab (dC (.int 4096)) (Ab (dC (.int 262144)) Ae)))))) (dV 3)))
noncomputable def Uq:DS:=(sIf (dOr (Aw (dOp Dj (dV 7) (dC (.int 0)))) (K5 (Aw (dOp Dj (dOp Bo (dV 8) (dC (.int 2))) (dC (.int 1)))) (Aw (dOp K4 (dOp Ay (dV 6) (dC (.int 1))) (dV 4))))) (Ah (sIf (Aw (dOp Je (dV 7) (dC (.int 0)))) (sAs (dOp Ay (dOp Ay (dV 6) (dC (.int 1))) (dOp Bo (dOp Dg (dV 8) (dC (.int 2))) (dOp Ez (dOp Ez (dV 4) (dV 6)) (dC (.int 1))))) (gV 6)) sNx) (sEx (G8 Fy (dV 5) (Ab (dFn Bq (Ab (dV 6) (Ab (dFn Y8 (Ab (dV 9) (Ab (dV 2) (Ab (dV 3) Ae)))) Ae))) Ae)))) sNx)
noncomputable def ZEt:DS:=(Ah (sIf (Aw (dFn N5 (Ab (dV 0) Ae))) (Ah (sAs (dOp Dg (dFn Bg (Ab (dV 0) (Ab (dOp Ay (dV 1) (dC (.int 4))) Ae))) (dOp Aj (Ck (dFn Ar (Ab (dC (.int 1)) (Ab (dC (.int 48)) (Ab (dC (.int 2304)) (Ab (dC (.int 110592)) Ae)))))) (dV 7))) (gV 8)) (sAs (Ck (Eh (Dl rng1 (Ab (dC (.int 4)) Ae)) 1 [0,1,7] (gV 0) Ce ZBb)) (gV 9))) sNx) Uq)
noncomputable def ZGw:DS:=(Ah (sAs (Ck (Eh (Dl rng1 (Ab (dC (.int 4)) Ae)) 1 [0,1,7] (gV 0) Ce ZAY)) (gV 9)) ZEt)
noncomputable def Mh:DS:=(Ah (sAs (dOp Bo (dOp Bs (dOp Bs (dFn Bg (Ab (dV 0) (Ab (dOp Ay (dV 1) (dC (.int 4))) Ae))) (dC (.int 48271))) (dOp Ay (dOp Bs (dV 7) (dV 7)) (dC (.int 1)))) (dC (.int 10007))) (gV 8)) ZGw)
noncomputable def ZD7:DS:=(Ah (sAs (dFn K6 (Ab (dV 0) Ae)) (gV 4)) (Ah (sAs (Ff (dFn Ar Ae)) (gV 5)) (Ah (sAs (dC (.int 0)) (gV 6)) (Ah (Du (Dl rng1 (Ab (dC (.int 4)) Ae)) (gV 7) Mh) (sRt (dFn H9 (Ab (dV 5) Ae)))))))
noncomputable def V1:List D->DH->R D:=Bv 4 6 ZD7
noncomputable def Zv:DE:=(dFn Xr (Ab (dOp Aj (dV 0) (dC (.int 1))) Ae))
noncomputable def Z2:DS:=(Ah (sAs (Ck (dFn Gs (Ab (dV 0) Ae))) (gV 5)) (Ah (sAs (dFn Bg (Ab (dV 0) (Ab (dOp Ay (dV 1) (dC (.int 11))) Ae))) (gV 6)) (Ah (sAs (N7 (dOp Je (dFn Dc (Ab (dV 3) Ae)) (dC (.int 1))) (dOp Dj (dOp Bo (dV 6) (dC (.int 2))) (dC (.int 1)))) (gV 7)) (Ah (sAs (dFn V1 (Ab (dV 0) (Ab (dV 1) (Ab (dV 5) (Ab (dV 7) Ae))))) (gV 8)) (Ah (sAs (dC .non) (gV 9)) (Ah (sIf (Aw (dV 7)) (Ah (sAs (dOp Ay (dFn Pk (Ab (Ck (Eh (Ep (dV 8)) 1 [] (gV 0) Ce Zv)) Ae)) (dOp Bs (dV 5) (dOp Bo (dOp Dg (dV 6) (dC (.int 130))) (dC (.int 2))))) (gV 10)) (Ah (sAs (dOp Aj (dV 3) (dOp Bo (dOp Ay (dOp Ay (dV 2) (dC (.int 1))) (dOp Bo (dOp Dg (dV 6) (dC (.int 2))) (dOp Ez (dFn Dc (Ab (dV 3) Ae)) (dC (.int 1))))) (dFn Dc (Ab (dV 3) Ae)))) (gV 11)) (sAs (dFn Bq (Ab (dV 11) (Ab (dOp Ay (dC (.int 1)) (dOp Bo (dOp Dg (dV 6) (dC (.int 26))) (dC (.int 5)))) (Ab (dV 10) Ae)))) (gV 9)))) sNx) (Ah (sAs (dFn Mz (Ab (dFn Bg (Ab (dV 0) (Ab (dOp Ay (dV 1) (dC (.int 3))) Ae))) (Ab (dV 5) Ae))) (gV 12)) (sRt (dFn Bq (Ab (dC (.str "basin")) (Ab (dOp Aj (dV 3) (dV 2)) (Ab (dOp Aj (dV 4) (dC (.int 0))) (Ab (dOp Aj (dV 4) (dC (.int 1))) (Ab (dV 12) (Ab (dV 8) (Ab (dV 9) Ae))))))))))))))))
noncomputable def Sx:List D->DH->R D:=Bv 5 8 Z2
noncomputable def ZFb:DS:=(Ah (sAs (dOp Aj (dC (.str "abcdefghijklmnopqrstuvwxyz")) (dOp Bo (dOp Dg (dV 0) (dC (.int 21))) (dC (.int 26)))) (gV 3)) (Ah (sIf (K5 (Aw (dOp Dj (dOp Bo (dV 0) (dC (.int 3))) (dC (.int 1)))) (Aw (dOp K4 (dV 2) (dC (.int 9))))) (sRt (dOp Bs (dV 3) (dOp Ay (dV 1) (dC (.int 1))))) sNx) (Ah (sAs (dOp Aj (dC (.str "abcdefghijkl")) (dOp Bo (dOp Ay (dOp Bs (dC (.int 5)) (dV 1)) (dOp Dg (dV 0) (dC (.int 546)))) (dC (.int 12)))) (gV 4)) (Ah (sIf (Aw (dOp Dj (dOp Bo (dV 0) (dC (.int 3))) (dC (.int 2)))) (sRt (dOp Ay (dV 4) (dOp Bs (dV 3) (dOp Bo (dOp Dg (dV 0) (dC (.int 3))) (dC (.int 7)))))) sNx) (sRt (dOp Ay (dOp Ay (dOp Bs (dV 3) (dOp Bo (dOp Dg (dV 0) (dC (.int 3))) (dC (.int 7)))) (dV 4)) (dOp Bs (dV 3) (dOp Ez (dC (.int 6)) (dOp Bo (dOp Dg (dV 0) (dC (.int 3))) (dC (.int 7)))))))))))
noncomputable def Wu:List D->DH->R D:=Bv 3 2 ZFb
noncomputable def ZBH:DE:=(dFn Wu (Ab (dFn Bg (Ab (dV 1) (Ab (dC (.int 5)) Ae))) (Ab (dV 0) (Ab (dV 2) Ae))))
noncomputable def Q9:DS:=(sIf (Aw (dOp K4 (dV 10) (dC (.int 2)))) (sEx (G8 Fy (dV 5) (Ab (Ck (dFn Sx (Ab (dV 0) (Ab (dV 6) (Ab (dV 4) (Ab (dV 3) (Ab (dV 9) Ae))))))) Ae))) (sIf (Aw (dOp K4 (dV 10) (dC (.int 4)))) (sEx (G8 Fy (dV 5) (Ab (dFn Bq (Ab (dC (.str "town")) (Ab (dOp Aj (dV 3) (dV 4)) (Ab (dOp Aj (dV 9) (dC (.int 0))) (Ab (dOp Aj (dV 9) (dC (.int 1))) (Ab (dV 11) (Ab (dV 12) Ae))))))) Ae))) (sEx (G8 Fy (dV 5) (Ab (dFn Bq (Ab (dC (.str "mill")) (Ab (dOp Aj (dV 3) (dV 4)) (Ab (dOp Aj (dV 9) (dC (.int 0))) (Ab (dOp Aj (dV 9) (dC (.int 1))) (Ab (dV 11) Ae)))))) Ae)))))
noncomputable def ZBg:DS:=(Ah (sAs (dOp Bo (dFn Bg (Ab (dV 0) (Ab (dOp Ay (dV 6) (dC (.int 4))) Ae))) (dOp Aj (Ck (dFn Ar (Ab (dC (.int 4)) (Ab (dOp Jr (dC (.int 10)) (dC (.int 40))) Ae)))) (dOp Bo (dOp Dg (dV 1) (dC (.int 840))) (dC (.int 2))))) (gV 12)) Q9)
noncomputable def Ze:DS:=(Ah (sAs (dFn Mz (Ab (dFn Bg (Ab (dV 0) (Ab (dOp Ay (dV 6) (dC (.int 3))) Ae))) (Ab (Ck (dFn Gs (Ab (dV 0) Ae))) Ae))) (gV 11)) ZBg)
noncomputable def T9:DS:=(Ah (sAs (dOp Bo (dFn Bg (Ab (dV 0) (Ab (dV 6) Ae))) (dC (.int 5))) (gV 10)) Ze)
noncomputable def ZAi:DS:=(Ah (sIf (Aw (dOp Je (dV 7) (dC (.int 0)))) (sAs (dFn Bq (Ab (dOp Aj (dV 3) (dOp Ay (dV 4) (dV 7))) (Ab (dOp Aj (dV 9) (dC (.int 1))) Ae))) (gV 9)) sNx) T9)
noncomputable def ZAV:DS:=(Ah (sAs (dFn Bq (Ab (dC (.str "sea")) (Ab (dOp Bs (dOp Bo (dV 8) (dC (.int 2))) (dOp Bo (dOp Dg (dV 8) (dC (.int 2))) (dC (.int 6)))) Ae))) (gV 9)) ZAi)
noncomputable def T5:DS:=(Ah (sAs (dFn Bg (Ab (dV 0) (Ab (dOp Ay (dV 6) (dC (.int 2))) Ae))) (gV 8)) ZAV)
noncomputable def ZCt:DS:=(Ah (sIf (Aw (dOp Dj (dOp Bo (dOp Dg (dV 1) (dC (.int 280))) (dC (.int 3))) (dC (.int 1)))) (sAs (dFn Nj (Ab (dC (.int 1)) (Ab (dOp Ez (dOp Ez (dV 2) (dC (.int 1))) (dV 4)) Ae))) (gV 7)) sNx) T5)
noncomputable def Va:DS:=(Ah (sAs (dOp Bo (dFn Bg (Ab (dV 0) (Ab (dOp Ay (dV 6) (dC (.int 1))) Ae))) (dOp Ez (dV 2) (dV 4))) (gV 7)) ZCt)
noncomputable def M6:DS:=(Ah (sAs (dOp Ay (dC (.int 6)) (dOp Bs (dC (.int 12)) (dV 4))) (gV 6)) Va)
noncomputable def ZEi:DS:=(Ah (sAs (dFn Bg (Ab (dV 0) (Ab (dC (.int 0)) Ae))) (gV 1)) (Ah (sAs (dOp Ay (dC (.int 1)) (dOp Bo (dV 1) (dC (.int 5)))) (gV 2)) (Ah (sIf (Aw (dOp Dj (dOp Bo (dOp Dg (dV 1) (dC (.int 5))) (dC (.int 8))) (dC (.int 1)))) (sAs (dOp Ay (dC (.int 6)) (dOp Bo (dOp Dg (dV 1) (dC (.int 40))) (dC (.int 7)))) (gV 2)) sNx) (Ah (sAs (Ck (Eh (Dl rng1 (Ab (dV 2) Ae)) 1 [0,2] (gV 0) Ce ZBH)) (gV 3)) (Ah (sAs (Ff (dFn Ar Ae)) (gV 5)) (Ah (Du (Dl rng1 (Ab (dV 2) Ae)) (gV 4) M6) (sRt (dFn Bq (Ab (dFn K6 (Ab (dV 0) Ae)) (Ab (dFn H9 (Ab (dV 5) Ae)) Ae))))))))))
noncomputable def V7:List D->DH->R D:=Bv 1 12 ZEi
noncomputable def Ni:DS:=(Ah (sAs (dOp Aj (dV 1) (dV 2)) (gV 3)) (Ah (sAs (dOp Aj (dOp Aj (dOp Aj (dV 0) (dC (.int 1))) (dV 2)) (dC (.int 4))) (gV 4)) (Ah (sIf (K5 (Aw (dOp Dj (dOp Aj (dOp Aj (dOp Aj (dV 0) (dC (.int 1))) (dV 2)) (dC (.int 0))) (dC (.str "basin")))) (Aw (dOp Je (dOp Aj (dV 3) (dC (.int 5))) (dV 4)))) (sRt (dC (.bl false))) sNx) (Ah (sIf (K5 (Aw (dOp Dj (dOp Aj (dOp Aj (dOp Aj (dV 0) (dC (.int 1))) (dV 2)) (dC (.int 0))) (dC (.str "basin")))) (K5 (Aw (dOp Je (dOp Aj (dV 3) (dC (.int 2))) (dC (.int 0)))) (Aw (dOp Jo (dOp Aj (dV 3) (dC (.int 5))) (dV 4))))) (sRt (dC (.bl false))) sNx) (sIf (K5 (Aw (dOp Dj (dOp Aj (dOp Aj (dOp Aj (dV 0) (dC (.int 1))) (dV 2)) (dC (.int 0))) (dC (.str "town")))) (Aw (dOp Je (dOp Aj (dV 3) (dC (.int 1))) (dV 4)))) (sRt (dC (.bl false))) sNx)))))
noncomputable def ZGk:DS:=(Ah (Du (Dl rng1 (Ab (dFn Dc (Ab (dV 1) Ae)) Ae)) (gV 2) Ni) (sRt (dC (.bl true))))
noncomputable def W5:List D->DH->R D:=Bv 2 3 ZGk
noncomputable def Z9:DS:=(Ah (sAs (dFn Bg (Ab (dV 0) (Ab (dC (.int 3)) Ae))) (gV 1)) (sRt (dOp Bo (dOp Dg (dV 1) (dC (.int 2))) (dOp Aj (Ck (dFn Ar (Ab (dC (.int 50)) (Ab (dOp Jr (dC (.int 10)) (dC (.int 39))) Ae)))) (dOp Bo (dV 1) (dC (.int 2)))))))
noncomputable def Rw:List D->DH->R D:=Bv 1 1 Z9
noncomputable def ZDT:DS:=(sRt (N7 (dFn Fx (Ab (dV 0) (Ab (dC (.ty "int")) Ae))) (N7 (ZAb (dFn Fx (Ab (dV 0) (Ab (dC (.ty "bool")) Ae)))) (dOp Xj (dV 0) (dC (.int 0))))))
noncomputable def Oa:List D->DH->R D:=Bv 1 0 ZDT
noncomputable def ZDc:DE:=(dFn Oa (Ab (dV 0) Ae))
noncomputable def Xq:DS:=(Ah (sIf (dOr (Iv (Aw (dFn Fx (Ab (dV 2) (Ab (dC (.ty "tuple")) Ae))))) (Aw (dOp Jo (dFn Dc (Ab (dV 2) Ae)) (dC (.int 6))))) (sRt (dC (.bl false))) sNx) (sIf (Iv (Aw (dFn Nx (Ab (Ck (Eh (Ep (dV 2)) 1 [] (gV 0) Ce ZDc)) Ae)))) (sRt (dC (.bl false))) sNx))
noncomputable def ZDi:DS:=(Ah (sIf (dOr (Iv (Aw (dFn Fx (Ab (dV 0) (Ab (dC (.ty "tuple")) Ae))))) (Aw (dOp Jo (dFn Dc (Ab (dV 0) Ae)) (dV 1)))) (sRt (dC (.bl false))) sNx) (Ah (Du (Ep (dV 0)) (gV 2) Xq) (sRt (dC (.bl true)))))
noncomputable def Vo:List D->DH->R D:=Bv 2 1 ZDi
noncomputable def ZHG:DS:=(sAs (dOp Dg (dV 9) (dC (.int 3))) (gV 9))
noncomputable def Rp:DS:=(Ah (sEx (G8 Fy (dV 10) (Ab (dOp Bs (dV 3) (dOp Bo (dV 9) (dC (.int 3)))) Ae))) ZHG)
noncomputable def ZF5:DS:=(sEx (G8 Fy (dV 6) (Ab (dFn H9 (Ab (dV 10) Ae)) Ae)))
noncomputable def Ux:DS:=(Ah (Du (Dl rng1 (Ab (dC (.int 5)) Ae)) (gV 11) Rp) ZF5)
noncomputable def ZGn:DS:=(Ah (sAs (Ff (dFn Ar Ae)) (gV 10)) Ux)
noncomputable def ZES:DS:=(Ah (sAs (dFn Bg (Ab (dV 0) (Ab (dOp Ay (dOp Ay (dV 4) (dFn Dc (Ab (dV 2) Ae))) (dV 7)) Ae))) (gV 9)) ZGn)
noncomputable def Vb:DS:=(Ah (sEx (G8 Fy (dV 5) (Ab (dV 8) Ae))) ZES)
noncomputable def ZD3:DS:=(Ah (sIf (Aw (dOp Dj (dOp Aj (dOp Aj (dV 2) (dV 7)) (dC (.int 0))) (dC (.str "basin")))) (sAs (dOp Bo (dFn Mz (Ab (dFn Bg (Ab (dV 0) (Ab (dOp Ay (dV 4) (dV 7)) Ae))) (Ab (dV 3) Ae))) (dOp Ay (dOp Aj (dOp Aj (dV 2) (dV 7)) (dC (.int 4))) (dC (.int 1)))) (gV 8)) sNx) Vb)
noncomputable def Rc:DS:=(Ah (sAs (dC (.int 0)) (gV 8)) ZD3)
noncomputable def ZHL:DS:=(Ah (sAs (dOp Aj (dV 1) (dC (.int 1))) (gV 2)) (Ah (sAs (Ck (dFn Gs (Ab (dV 0) Ae))) (gV 3)) (Ah (sAs (dOp Ay (dC (.int 6)) (dOp Bs (dC (.int 12)) (dFn Dc (Ab (dV 2) Ae)))) (gV 4)) (Ah (sAs (Ff (dFn Ar Ae)) (gV 5)) (Ah (sAs (Ff (dFn Ar Ae)) (gV 6)) (Ah (Du (Dl rng1 (Ab (dFn Dc (Ab (dV 2) Ae)) Ae)) (gV 7) Rc) (sRt (dFn Bq (Ab (dFn H9 (Ab (dV 5) Ae)) (Ab (dFn H9 (Ab (dV 6) Ae)) Ae))))))))))
noncomputable def V8:List D->DH->R D:=Bv 2 10 ZHL
noncomputable def ZCN:DE:=(dFn H8 (Ab (dV 0) Ae))
noncomputable def ZFq:DS:=(sRt (dOp Ay (dFn H8 (Ab (dOp Aj (dV 0) (dC (.int 0))) Ae)) (dFn H8 (Ab (Ck (Eh (Ep (dOp Aj (dV 0) (dC (.int 1)))) 1 [] (gV 0) Ce ZCN)) Ae))))
noncomputable def Sd:List D->DH->R D:=Bv 1 0 ZFq
noncomputable def ZF3:DE:=(dFn Oa (Ab (dV 0) Ae))
noncomputable def Y0:DS:=(sIf (dOr (Iv (Aw (dFn Fx (Ab (dV 2) (Ab (dC (.ty "tuple")) Ae))))) (dOr (Aw (dOp Jo (dFn Dc (Ab (dV 2) Ae)) (dC (.int 5)))) (Iv (Aw (dFn Nx (Ab (Ck (Eh (Ep (dV 2)) 1 [] (gV 0) Ce ZF3)) Ae)))))) (sRt (dC (.bl false))) sNx)
noncomputable def ZDo:DE:=(dFn Oa (Ab (dV 0) Ae))
noncomputable def ZF1:DS:=(Ah (sIf (dOr (Iv (Aw (dFn Fx (Ab (dV 0) (Ab (dC (.ty "tuple")) Ae))))) (Aw (dOp Jo (dFn Dc (Ab (dV 0) Ae)) (dC (.int 2))))) (sRt (dC (.bl false))) sNx) (Ah (sIf (dOr (Iv (Aw (dFn Fx (Ab (dOp Aj (dV 0) (dC (.int 0))) (Ab (dC (.ty "tuple")) Ae))))) (Iv (Aw (dFn Fx (Ab (dOp Aj (dV 0) (dC (.int 1))) (Ab (dC (.ty "tuple")) Ae)))))) (sRt (dC (.bl false))) sNx) (Ah (sIf (dOr (Aw (dOp Jo (dFn Dc (Ab (dOp Aj (dV 0) (dC (.int 0))) Ae)) (dV 1))) (Aw (dOp Jo (dFn Dc (Ab (dOp Aj (dV 0) (dC (.int 1))) Ae)) (dV 1)))) (sRt (dC (.bl false))) sNx) (Ah (Du (Ep (dOp Aj (dV 0) (dC (.int 1)))) (gV 2) Y0) (sRt (dFn Nx (Ab (Ck (Eh (Ep (dOp Aj (dV 0) (dC (.int 0)))) 1 [] (gV 0) Ce ZDo)) Ae)))))))
noncomputable def Vv:List D->DH->R D:=Bv 2 1 ZF1
noncomputable def W3:DE:=(dOp Ay (dV 0) (dOp Aj (dV 1) (dC (.int 0))))
noncomputable def Tc:DE:=(Ff (dOp Ay (Ck (dFn Wl (Ab (Ck (dSl (dV 0) (some (dC (.int 1))) none)) Ae))) (Ck (dFn Ar (Ab (dC (.int 0)) Ae)))))
noncomputable def ZHp:DS:=(Ah (sAs (dV 2) (Bw 2 (Aq (gV 5) (Aq (gV 6) Cg)))) (Ah (Gw "Course" (dV 0) (dV 1) "house") (Ah (Gw "Course" (dV 0) (dV 5) "levels") (Ah (Gw "Course" (dV 0) (dOp Bo (dV 3) (dOp Aj (dV 1) (dC (.int 0)))) "year_turn") (Ah (Gw "Course" (dV 0) (Eh (Dl (J7 2) (Ab (dV 4) (Ab (dV 6) Ae))) 2 [] (Bw 2 (Aq (gV 0) (Aq (gV 1) Cg))) Ce W3) "came") (Ah (Gw "Course" (dV 0) (Eh (Ep (dV 6)) 1 [] (gV 0) Ce Tc) "coming") (Ah (Gw "Course" (dV 0) (Ff (dOp Kg (dFn Ar (Ab (dC .non) Ae)) (dFn Dc (Ab (dV 5) Ae)))) "page") (Gw "Course" (dV 0) (Ff (dFn Ar Ae)) "reaches"))))))))
noncomputable def R7:List D->DH->R D:=Bv 5 2 ZHp
noncomputable def ZGR:DS:=(sIf (Aw (dOp Dj (dV 2) (dC (.int 0)))) (Qq (Ex "Course" (dV 0) "came") (dV 1) (dV 3) Lq) (Qq (dOp Aj (Ex "Course" (dV 0) "coming") (dV 1)) (dOp Ez (dV 2) (dC (.int 1))) (dV 3) Lq))
noncomputable def Rb:List D->DH->R D:=Bv 4 0 ZGR
noncomputable def Qz:DS:=(sIf (Aw (dOp Dj (dOp Aj (dV 3) (dC (.int 1))) (dV 1))) (sRt (dV 2)) sNx)
noncomputable def ZE3:DS:=(Ah (Du (Dl Iz (Ab (dOp Aj (dV 0) (dC (.int 1))) Ae)) (Bw 2 (Aq (gV 2) (Aq (gV 3) Cg))) Qz) sBad)
noncomputable def Ri:List D->DH->R D:=Bv 2 2 ZE3
noncomputable def ZFw:DS:=(Ah (sAs (dOp Aj (dOp Aj (dOp Aj (dV 0) (dC (.int 1))) (dV 1)) (dC (.int 2))) (gV 2)) (Ah (sIf (Aw (dOp Dj (dV 2) (dC (.str "sea")))) (sRt (dC .non)) sNx) (sRt (dFn Ri (Ab (dV 0) (Ab (dV 2) Ae))))))
noncomputable def Tn:List D->DH->R D:=Bv 2 1 ZFw
noncomputable def ZFD:DS:=(Ah (sAs (dFn Tn (Ab (Ex "Course" (dV 0) "house") (Ab (dV 1) Ae))) (gV 3)) (sIf (Aw (dOp Nh (dV 3) (dC .non))) (sEx (J0 "Course" "send" Rb (dV 0) (Ab (dV 3) (Ab (dOp Aj (dOp Aj (dOp Aj (Ex "Course" (dV 0) "house") (dC (.int 1))) (dV 1)) (dC (.int 3))) (Ab (dV 2) Ae))))) sNx))
noncomputable def Sq:List D->DH->R D:=Bv 3 1 ZFD
noncomputable def Xd:DS:=(Ah (sAs (dFn Y4 (Ab (dC (.int 0)) (Ab (dFn Nj (Ab (dV 5) (Ab (dOp Ez (dV 1) (dV 4)) Ae))) Ae))) (gV 7)) (sIf (Aw (dOp Dj (dV 6) (dC (.str "river")))) (sAu 2 (dV 7) Lq) (sAu 3 (dV 7) Lq)))
noncomputable def ZGe:DS:=(Ah (sAs (dC (.int 0)) (gV 2)) (Ah (sAs (dC (.int 0)) (gV 3)) (Ah (Du (Ep (dV 0)) (Bw 3 (Aq (gV 4) (Aq (gV 5) (Aq (gV 6) Cg)))) Xd) (sRt (dFn Bq (Ab (dV 2) (Ab (dV 3) (Ab (dOp Ez (dOp Ez (dV 1) (dV 2)) (dV 3)) Ae))))))))
noncomputable def Wx:List D->DH->R D:=Bv 2 6 ZGe
noncomputable def Wh:DS:=(sIf (Aw (dOp Ug (dV 3) (dV 1))) (sAs (dV 4) (gV 2)) sNx)
noncomputable def ZFh:DS:=(Ah (sAs (dFn Bq Ae) (gV 2)) (Ah (Du (Ep (dV 0)) (Bw 2 (Aq (gV 3) (Aq (gV 4) Cg))) Wh) (sRt (dV 2))))
noncomputable def Us:List D->DH->R D:=Bv 2 3 ZFh
noncomputable def ZEY:DS:=(Ah (sAs (dOp Aj (dOp Aj (Ex "Course" (dV 0) "house") (dC (.int 1))) (dV 1)) (gV 2)) (Ah (sAs (dOp Aj (Ex "Course" (dV 0) "came") (dV 1)) (gV 3)) (Ah (sAs (dFn Wx (Ab (dFn Us (Ab (dOp Aj (dV 2) (dC (.int 5))) (Ab (Ex "Course" (dV 0) "year_turn") Ae))) (Ab (dOp Ay (dOp Aj (Ex "Course" (dV 0) "levels") (dV 1)) (dV 3)) Ae))) (Bw 3 (Aq (gV 4) (Aq (gV 5) (Aq (gV 6) Cg))))) (Ah (sAs (dFn Nj (Ab (dV 6) (Ab (dOp Aj (dV 2) (dC (.int 4))) Ae))) (gV 7)) (Ah (sAs (dOp Ez (dV 6) (dV 7)) (gV 8)) (Ah (sAs (dFn Bq (Ab (dV 3) (Ab (dC (.int 0)) (Ab (dV 8) (Ab (dV 4) (Ab (dV 5) (Ab (dV 7) Ae))))))) (gIx (Ex "Course" (dV 0) "page") (dV 1))) (Ah (sEx (J0 "Course" "send_down" Sq (dV 0) (Ab (dV 1) (Ab (dOp Ay (dV 4) (dV 8)) Ae)))) (sIf (Aw (dOp Nh (dOp Aj (dV 2) (dC (.int 6))) (dC .non))) (sEx (J0 "Course" "send" Rb (dV 0) (Ab (dFn Ri (Ab (Ex "Course" (dV 0) "house") (Ab (dOp Aj (dOp Aj (dV 2) (dC (.int 6))) (dC (.int 0))) Ae))) (Ab (dOp Aj (dOp Aj (dV 2) (dC (.int 6))) (dC (.int 1))) (Ab (dV 5) Ae))))) sNx))))))))
noncomputable def Vz:List D->DH->R D:=Bv 2 7 ZEY
noncomputable def ZBy:DE:=(dOp Ez (dOp Aj (dV 0) (dC (.int 1))) (dV 1))
noncomputable def O7:DS:=(sIf (Aw (dOp Nh (dOp Aj (dV 3) (dC (.int 0))) (dC .non))) (Qq (dV 2) (dOp Aj (dV 3) (dC (.int 0))) (dOp Aj (dV 2) (dV 4)) Lq) sNx)
noncomputable def ZFH:DS:=(Ah (sAs (Eh (Dl (J7 2) (Ab (dV 0) (Ab (dV 1) Ae))) 2 [] (Bw 2 (Aq (gV 0) (Aq (gV 1) Cg))) Ce ZBy) (gV 2)) (Ah (Du (Dl Iz (Ab (dV 0) Ae)) (Bw 2 (Aq (gV 4) (Aq (gV 3) Cg))) O7) (sRt (dV 2))))
noncomputable def Qp:List D->DH->R D:=Bv 2 3 ZFH
noncomputable def ZGG:DS:=(Ah (sAs (dOp Aj (dV 0) (dC (.int 1))) (gV 2)) (Ah (sAs (dFn Tn (Ab (dV 0) (Ab (dV 1) Ae))) (gV 3)) (Ah (sIf (dOr (Aw (dOp Vd (dV 3) (dC .non))) (Aw (dOp Je (dOp Aj (dOp Aj (dV 2) (dV 1)) (dC (.int 3))) (dC (.int 0))))) (sRt (dC .non)) sNx) (Ah (sIf (dOr (Aw (dOp Dj (dOp Aj (dOp Aj (dV 2) (dV 1)) (dC (.int 0))) (dC (.str "basin")))) (Aw (dOp Dj (dOp Aj (dOp Aj (dV 2) (dV 3)) (dC (.int 0))) (dC (.str "basin"))))) (sRt (dC .non)) sNx) (sRt (dV 3))))))
noncomputable def S6:List D->DH->R D:=Bv 2 2 ZGG
noncomputable def Su:DS:=(Ah (sAs (dOp Aj (dOp Aj (dV 0) (dC (.int 1))) (dV 4)) (gV 5)) (Ah (sAs (dFn S6 (Ab (dV 0) (Ab (dV 4) Ae))) (gV 6)) (Ah (sAs (dIf (Aw (dOp Vd (dV 6) (dC .non))) (dC .non) (G8 Px (dV 1) (Ab (dV 6) Ae))) (gV 7)) (sIf (Aw (dOp Dj (dOp Aj (dV 5) (dC (.int 0))) (dC (.str "town")))) (sEx (G8 Fy (dV 3) (Ab (dFn Bq (Ab (dV 7) (Ab (dOp Aj (dV 2) (dV 4)) (Ab (dOp Aj (dV 5) (dC (.int 4))) (Ab (dOp Aj (dV 5) (dC (.int 5))) Ae))))) Ae))) (sEx (G8 Fy (dV 3) (Ab (dFn Bq (Ab (dV 7) (Ab (dOp Aj (dV 2) (dV 4)) (Ab (dC (.int 0)) (Ab (dC (.int 0)) Ae))))) Ae)))))))
noncomputable def ZFu:DS:=(Ah (sAs (Ff (dFn Ar Ae)) (gV 3)) (Ah (Du (Ep (dV 1)) (gV 4) Su) (sRt (dV 3))))
noncomputable def V5:List D->DH->R D:=Bv 3 5 ZFu
noncomputable def ZAp:DE:=(dFn Bq (Ab (dOp Aj (dV 1) (dC (.int 3))) (Ab (dV 0) Ae)))
noncomputable def ZCh:DE:=(dV 1)
noncomputable def ZDZ:DS:=(Ah (sAs (Ck (dFn Rm (Ab (Ck (Eh (Dl Iz (Ab (dV 0) Ae)) 2 [] (Bw 2 (Aq (gV 0) (Aq (gV 1) Cg))) Ce ZAp)) Ae))) (gV 1)) (sRt (Eh (Ep (dV 1)) 2 [] (Bw 2 (Aq (gV 0) (Aq (gV 1) Cg))) Ce ZCh)))
noncomputable def Vu:List D->DH->R D:=Bv 1 1 ZDZ
noncomputable def Rq:DS:=(Ah (sEx (G8 Fy (dV 2) (Ab (dV 3) Ae))) (sAs (dOp Aj (dOp Aj (dV 0) (dV 3)) (dC (.int 0))) (gV 3)))
noncomputable def Nz:DB:=(Aw (dOp Nh (dV 3) (dC .non)))
noncomputable def ZGF:DS:=(Ah (sAs (Ff (dFn Ar (Ab (dV 1) Ae))) (gV 2)) (Ah (sAs (dOp Aj (dOp Aj (dV 0) (dV 1)) (dC (.int 0))) (gV 3)) (Ah (sWh Nz Rq fuel) (sRt (dV 2)))))
noncomputable def Ve:List D->DH->R D:=Bv 2 2 ZGF
noncomputable def ZBS:DE:=(dOp Aj (dV 1) (dV 0))
noncomputable def Uv:DS:=(Qq (dV 2) (dV 6) (dV 5) Ez)
noncomputable def Rz:DS:=(Ah (sAs (Ck (dFn Ve (Ab (dV 0) (Ab (dV 3) Ae)))) (gV 4)) (Ah (sAs (dFn Nj (Ab (dOp Aj (dOp Aj (dV 0) (dV 3)) (dC (.int 2))) (Ab (dFn Ol (Ab (Ck (Eh (Ep (dV 4)) 1 [2] (gV 0) Ce ZBS)) Ae)) Ae))) (gV 5)) (Ah (sAs (dV 5) (gIx (dV 1) (dV 3))) (Du (Ep (dV 4)) (gV 6) Uv))))
noncomputable def ZDj:DS:=(Ah (sAs (Ff (dOp Kg (dFn Ar (Ab (dC (.int 0)) Ae)) (dFn Dc (Ab (dV 0) Ae)))) (gV 1)) (Ah (sAs (Ff (dFn Qp (Ab (dV 0) (Ab (dV 1) Ae)))) (gV 2)) (Ah (Du (Ep (Ck (dFn Vu (Ab (dV 0) Ae)))) (gV 3) Rz) (sRt (dV 1)))))
noncomputable def Y5:List D->DH->R D:=Bv 1 6 ZDj
noncomputable def M5:DS:=(Ah (sAs (dFn Bq (Ab (dOp Ay (dV 5) (dV 6)) (Ab (dV 5) (Ab (dC (.int 0)) (Ab (dV 6) (Ab (dC (.int 0)) (Ab (dC (.int 0)) Ae))))))) (gIx (Ex "Course" (dV 0) "page") (dV 4))) (sIf (Aw (dOp Dj (dV 4) (dOp Aj (dV 1) (dUn Th (dC (.int 1)))))) (sEx (J0 "Course" "send_down" Sq (dV 0) (Ab (dV 4) (Ab (dV 6) Ae)))) sNx))
noncomputable def ZFC:DS:=(Ah (sAs (Ck (dFn V5 (Ab (Ex "Course" (dV 0) "house") (Ab (dV 1) (Ab (Ex "Course" (dV 0) "came") Ae))))) (gV 2)) (Ah (sAs (Ck (dFn Y5 (Ab (dV 2) Ae))) (gV 3)) (Ah (Du (Dl (J7 3) (Ab (dV 1) (Ab (dV 3) (Ab (Ck (dFn Qp (Ab (dV 2) (Ab (dV 3) Ae)))) Ae)))) (Bw 3 (Aq (gV 4) (Aq (gV 5) (Aq (gV 6) Cg)))) M5) (sEx (G8 Fy (Ex "Course" (dV 0) "reaches") (Ab (Ff (dFn Bq (Ab (dV 1) (Ab (dV 2) Ae)))) Ae))))))
noncomputable def W2:List D->DH->R D:=Bv 2 5 ZFC
noncomputable def Y9:DS:=(Ah (sAs (dFn S6 (Ab (dV 0) (Ab (dV 2) Ae))) (gV 3)) (sIf (Aw (dOp Nh (dV 3) (dC .non))) (sAs (dOp Aj (dV 1) (dV 3)) (gIx (dV 1) (dV 2))) sNx))
noncomputable def ZGI:DS:=(Ah (sAs (Ff (dLR (Ab (dFn Dc (Ab (dOp Aj (dV 0) (dC (.int 1))) Ae)) Ae))) (gV 1)) (Ah (Du (Dl rng3 (Ab (dOp Ez (dFn Dc (Ab (dOp Aj (dV 0) (dC (.int 1))) Ae)) (dC (.int 1))) (Ab (dUn Th (dC (.int 1))) (Ab (dUn Th (dC (.int 1))) Ae)))) (gV 2) Y9) (sRt (dV 1))))
noncomputable def X7:List D->DH->R D:=Bv 1 3 ZGI
noncomputable def Wb:DE:=(dV 0)
noncomputable def R9:DB:=(Aw (dOp Dj (dV 1) (dV 2)))
noncomputable def Oe:DS:=(sIf (Aw (dOp Dj (dOp Aj (dOp Aj (dOp Aj (Ex "Course" (dV 0) "house") (dC (.int 1))) (dV 2)) (dC (.int 0))) (dC (.str "basin")))) (sEx (J0 "Course" "go_basin" Vz (dV 0) (Ab (dV 2) Ae))) (sIf (Aw (dOp Dj (dV 3) (dV 2))) (sEx (J0 "Course" "go_reach" W2 (dV 0) (Ab (Ck (Eh (Dl Iz (Ab (dV 1) Ae)) 2 [2] (Bw 2 (Aq (gV 0) (Aq (gV 1) Cg))) R9 Wb)) Ae))) sNx))
noncomputable def ZDP:DS:=(Ah (sAs (Ck (dFn X7 (Ab (Ex "Course" (dV 0) "house") Ae))) (gV 1)) (Du (Dl Iz (Ab (dV 1) Ae)) (Bw 2 (Aq (gV 2) (Aq (gV 3) Cg))) Oe))
noncomputable def Uz:List D->DH->R D:=Bv 1 3 ZDP
noncomputable def Xu:DE:=(dOp Aj (dV 0) (dC (.int 5)))
noncomputable def Xk:DE:=(dFn H9 (Ab (dV 0) Ae))
noncomputable def ZDE:DS:=(sRt (dFn Bq (Ab (dFn H9 (Ab (Ck (Eh (Ep (Ex "Course" (dV 0) "page")) 1 [] (gV 0) Ce Xu)) Ae)) (Ab (dFn H9 (Ab (Ck (Eh (Ep (Ex "Course" (dV 0) "coming")) 1 [] (gV 0) Ce Xk)) Ae)) Ae))))
noncomputable def Wt:List D->DH->R D:=Bv 1 0 ZDE
noncomputable def ZD9:DS:=(Ah (sAs (ZAK "Course" R7 (Ab (dV 0) (Ab (dV 1) (Ab (dV 2) (Ab (dV 3) Ae))))) (gV 4)) (Ah (sEx (J0 "Course" "go" Uz (dV 4) Ae)) (sRt (dFn Bq (Ab (dFn H9 (Ab (Ex "Course" (dV 4) "page") Ae)) (Ab (J0 "Course" "state_behind" Wt (dV 4) Ae) Ae))))))
noncomputable def Vx:List D->DH->R D:=Bv 4 1 ZD9
noncomputable def Rf:DS:=(Ah (sAs (dFn Vx (Ab (dV 0) (Ab (dV 1) (Ab (dV 5) (Ab (dV 6) Ae))))) (Bw 2 (Aq (gV 7) (Aq (gV 1) Cg)))) (sEx (G8 Fy (dV 4) (Ab (dV 7) Ae))))
noncomputable def ZC9:DS:=(Ah (sAs (Ff (dFn Ar Ae)) (gV 4)) (Ah (Du (ZA4 (Ab (dV 3) Ae) (dV 2)) (Bw 2 (Aq (gV 5) (Aq (gV 6) Cg))) Rf) (sRt (dFn Bq (Ab (dV 4) (Ab (dV 1) Ae))))))
noncomputable def Xg:List D->DH->R D:=Bv 4 4 ZC9
noncomputable def ZBY:DE:=(dFn H8 (Ab (dV 0) Ae))
noncomputable def Py:DS:=(Ah (sAs (dOp Ez (dV 6) (dOp Aj (dOp Aj (dV 7) (dV 8)) (dC (.int 1)))) (gV 6)) (sIf (Aw (dOp Dj (dOp Aj (dOp Aj (dOp Aj (dV 1) (dC (.int 1))) (dV 8)) (dC (.int 2))) (dC (.str "sea")))) (sAs (dOp Ez (dOp Ez (dV 6) (dOp Aj (dOp Aj (dV 7) (dV 8)) (dC (.int 2)))) (dOp Aj (dOp Aj (dV 7) (dV 8)) (dC (.int 3)))) (gV 6)) sNx))
noncomputable def Uk:DS:=(Ah (sIf (dOr (Iv (Aw (dFn Vo (Ab (dV 7) (Ab (dFn Dc (Ab (dOp Aj (dV 1) (dC (.int 1))) Ae)) Ae))))) (Iv (Aw (dFn W5 (Ab (dV 1) (Ab (dV 7) Ae)))))) (sRt (dC (.bl false))) sNx) (Du (Dl rng1 (Ab (dFn Dc (Ab (dV 7) Ae)) Ae)) (gV 8) Py))
noncomputable def ZFU:DS:=(Ah (sAs (dFn V7 (Ab (dV 0) Ae)) (gV 1)) (Ah (sAs (dFn V8 (Ab (dV 0) (Ab (dV 1) Ae))) (gV 2)) (Ah (sAs (Ck (dFn Vr (Ab (dV 0) (Ab (dV 1) (Ab (dOp Bo (dFn Bg (Ab (dV 0) (Ab (dC (.int 2)) Ae))) (dC (.int 7))) Ae))))) (gV 3)) (Ah (sAs (Ck (dFn Xg (Ab (dV 1) (Ab (dV 2) (Ab (dFn Rw (Ab (dV 0) Ae)) (Ab (dV 3) Ae)))))) (Bw 2 (Aq (gV 4) (Aq (gV 5) Cg)))) (Ah (sIf (dOr (Iv (Aw (dFn Fx (Ab (dV 4) (Ab (dC (.ty "list")) Ae))))) (Aw (dOp Jo (dFn Dc (Ab (dV 4) Ae)) (dFn Dc (Ab (dV 3) Ae))))) (sRt (dC (.bl false))) sNx) (Ah (sAs (dOp Ay (dFn Sd (Ab (dV 2) Ae)) (dFn H8 (Ab (Ck (Eh (Ep (dV 3)) 1 [] (gV 0) Ce ZBY)) Ae))) (gV 6)) (Ah (Du (Ep (dV 4)) (gV 7) Uk) (sRt (N7 (dFn Vv (Ab (dV 5) (Ab (dFn Dc (Ab (dOp Aj (dV 1) (dC (.int 1))) Ae)) Ae))) (dOp Dj (dV 6) (dFn Sd (Ab (dV 5) Ae))))))))))))
noncomputable def Mx:List D->DH->R D:=Bv 1 8 ZFU
noncomputable def Holds:Prop:=∀ns:List Int,ns.length<=63->∃G,Mx [.fl (ns.map D.int)] []=.ok (.bl true) G
end Law
namespace Law
open PySem L2 DL
variable {ns xs l:List Int} {k m i d b j to dl:Nat} {F T P ca fl lv f:Nat->Int} {G L:DH} {A:DO} {ds:List D} {ws ms:List Nat} {x:Option D} {α:Type} {t w c a e at_ u yr:Int} {q:Option (Nat×Nat×Int)} {H LV:D} {pg:Nat->List Int} {S:DSt} {co:Nat->Nat->Int} {p:Bool} {nm:Nat->Str} {fls:List (Nat->Int)}
theorem ZGC:∃b,∀G,N5 [.fl (ns.map D.int)] G=.ok (.bl b) G:=by
 cases ns with
 | nil=>exact ⟨false,λG=>by unfold N5 ZAm;rw [Br];simp [Bx]⟩
 | cons n r=>
  refine ⟨decide (n < 0) || decide (1000000000000000000<=n),λG=> ?_⟩;unfold N5 ZAm;rw [Br];have a0:atI ((n::r).map D.int) 0=some (.int n):=Fe (k:=0) rfl rfl;by_cases h:n < 0
  ·simp [a0,h,Bx]
  ·simp [a0,h,Bx]
noncomputable def offV:Nat->Int->Int
 | 0,v=>v
 | n + 1,v=>offV n (v / 100000000)
theorem ZD0 {k:D} {G:DH}:∀(n:Nat) (j:Nat) (v:Int) (x:Option D),∃x',Bh (gV 2) Tu (Cq j n) [some (.int v),some k,x] G=.nx [some (.int (offV n v)),some k,x'] G
 | 0,j,v,x=>⟨x,by rw [Lz,Ed];rfl⟩
 | n + 1,j,v,x=>by
  obtain ⟨x',ih⟩:=ZD0 (k:=k) (G:=G) n (j + 1) (v / 100000000) (some (.int j));refine ⟨x',?_⟩;have hb:Tu [some (.int v),some k,some (.int j)] G=.nx [some (.int (v / 100000000)),some k,some (.int j)] G:=by unfold Tu;simp
  rw [Ko,Dk];simp only [Ds,R.Di,List.set,hb,Dv];have e1:((j:Int) + 1)=((j + 1:Nat):Int):=by lia
  rw [e1,ih]
  rfl
theorem ZED {v:Int} (hk:k<=1000):∃r:Int,(0<=r/\r < 100000000)/\∀G,Tq [.int v,.int k] G=.ok (.int r) G:=by
 by_cases h:0<=v/\v < 1000000000000000000
 ·let a:=(v + 1009 * (k:Int) + 7) % 999999937;let b:=a * a % 999999929;refine ⟨b * (b + k) % 99999989,by lia,λG=> ?_⟩;have ha:0<=a/\a < 999999937:=by lia
  have hb:0<=b/\b < 999999929:=by lia
  unfold Tq Zm;rw [Br];have m1:Bs (.int a) (.int a)=λG=>R.ok (.int (a * a)) G:=by funext G;exact Kr (by lia) (by lia)
  have m2:Bs (.int b) (.int (b + k))=λG=>R.ok (.int (b * (b + k))) G:=by funext G;exact Kr (by lia) (by lia)
  simp [h.1,h.2]
  rw [show (v + 1009 * (k:Int) + 7) % 999999937=a from rfl,m1]
  simp
  rw [show a * a % 999999929=b from rfl,m2]
  simp [Bx]
 ·refine ⟨offV k v % 100000000,by lia,λG=> ?_⟩;obtain ⟨x',hx⟩:=ZD0 (k:=.int k) (G:=G) k 0 v none;have hx':Bh (gV 2) Tu (Cq 0 k) [some (.int v),some (.int k),none] G=.nx [some (.int (offV k v)),some (.int k),x'] G:=hx;unfold Tq Zm;rw [Br];have hr:inR (k:Int):=Hz (by lia) (by lia);by_cases h0:0<=v
  ·have h1:¬v < 1000000000000000000:=λz=>h ⟨h0,z⟩
   simp [h0,h1,hr,hx',Bx]
  ·simp [h0,hr,hx',Bx]
theorem ZEM (hl:ns.length<=63) (hk:k<=1000):∃v:Int,∀G,Bg [.fl (ns.map D.int),.int k] G=.ok (.int v) G:=by
 obtain ⟨b,ht⟩:=ZGC (ns:=ns);have hd:((k:Int) / 14)=((k / 14:Nat):Int):=by lia
 have hm:((k:Int) % 14)=((k % 14:Nat):Int):=by lia
 cases b with
 | true=>
  by_cases h:1 + k / 14 < ns.length
  ·obtain ⟨r,hr,ho⟩:=ZED (v:=ns[1 + k / 14]) (k:=k % 14) (by lia);refine ⟨r,λG=> ?_⟩;unfold Bg Oj;rw [Br];have a1:atI (ns.map D.int) (1 + (k:Int) / 14)=some (.int ns[1 + k / 14]):=Fe (k:=1 + k / 14) (by lia) (by rw [List.getElem?_map,List.getElem?_eq_getElem h];rfl);have hc:(1 + (k:Int) / 14) < ns.length:=by lia
   simp [ht,hc,a1];rw [hm,ho];simp [Bx]
  ·obtain ⟨r,hr,ho⟩:=ZED (v:=0) (k:=k % 14) (by lia);refine ⟨r,λG=> ?_⟩;unfold Bg Oj;rw [Br];have hc:¬(1 + (k:Int) / 14) < ns.length:=by lia
   simp [ht,hc];rw [hm,ho];simp [Bx]
 | false=>
  by_cases h:k < ns.length
  ·refine ⟨ns[k],λG=> ?_⟩;unfold Bg Oj;rw [Br];have a1:atI (ns.map D.int) (k:Int)=some (.int ns[k]):=Fe (k:=k) rfl (by rw [List.getElem?_map,List.getElem?_eq_getElem h];rfl);simp [ht,h,a1,Bx]
  ·have m0:∀G,Bs (.int k) (.int k) G=R.ok (.int ((k:Int) * k)) G:=λG=>Kr (by lia) (by lia)
   by_cases h0:0 < ns.length
   ·have hi:k % ns.length < ns.length:=Nat.mod_lt _ h0;refine ⟨48271 * ((k:Int) * k + 7 * ns.length) % 2147483647 + ns[k % ns.length] * 69621 % 2147483629,λG=> ?_⟩;unfold Bg Oj;rw [Br];have a1:atI (ns.map D.int) ((k:Int) % ns.length)=some (.int ns[k % ns.length]):=Fe (k:=k % ns.length) (by simp) (by rw [List.getElem?_map,List.getElem?_eq_getElem hi];rfl);simp [ht,h,m0,h0,a1,Bx]
   ·have e:ns= []:=List.eq_nil_of_length_eq_zero (by lia);subst e;refine ⟨48271 * ((k:Int) * k + 7 * 0) % 2147483647,λG=> ?_⟩;unfold Bg Oj;rw [Br];have ht':∀G,N5 [.fl []] G=.ok (.bl false) G:=ht;have hk0:¬(k:Int) < 0:=by lia
    simp [ht',hk0,m0,Bx]
theorem cells (hl:ns.length<=63):∃f:Nat->Int,∀k:Nat,k<=1000->∀G,Bg [.fl (ns.map D.int),.int k] G=.ok (.int (f k)) G:=by refine ⟨λk=>if h:k<=1000 then (ZEM hl h).choose else 0,λk hk=> ?_⟩;simp only [dif_pos hk];exact (ZEM hl hk).choose_spec
structure Row where
 down:Option Nat
 water:Int
 need:Int
 rank:Int
variable {rs:List Row}
noncomputable def dnD:Option Nat->D
 | none=>.non
 | some d=>.int d
noncomputable def Row.enc (r:Row):D:=.tup [dnD r.down,.int r.water,.int r.need,.int r.rank]
@[simp] theorem ZQk {n:Nat} {o:Option Nat}:bel n (dnD o)=true:=by cases o <;> rfl
@[simp] theorem ZKA {n:Nat} {r:Row}:bel n r.enc=true:=by simp [Row.enc]
@[simp] theorem ZQs {n:Nat} :bels n (rs.map Row.enc)=true:=G7 λr _=>ZKA
@[simp] theorem ZCi {n:Nat} :bels n (xs.map D.int)=true:=G7 λr _=>rfl
structure Fine (k n:Nat) (r:Row):Prop where
 dn:∀d,r.down=some d->k < d/\d < n
 w0:0<=r.water
 n0:0<=r.need
 r0:0<=r.rank
noncomputable def Reach (rs:List Row):Prop:=∀k r,rs[k]? =some r->Fine k rs.length r
noncomputable def tab (n:Nat) (F:Nat->Int):List D:=(List.range n).map λi=>D.int (F i)
noncomputable def fset (F:Nat->Int) (d:Nat) (v:Int):Nat->Int:=λi=>if i=d then v else F i
@[simp] theorem ZLa {n:Nat} :(tab n F).length=n:=by simp [tab]
@[simp] theorem Ml {n:Nat} :bels m (tab n F)=true:=G7 λ_ _=>rfl
theorem Mm {n:Nat} (h:i < n):(tab n F)[i]? =some (.int (F i)):=by unfold tab;rw [List.getElem?_map,List.getElem?_range h];rfl
theorem Ik {n:Nat} (h:i < n):atI (tab n F) (i:Int)=some (.int (F i)):=Fe rfl (Mm h)
theorem Qt {n:Nat} {v:Int}:(tab n F).set d (.int v)=tab n (fset F d v):=by
 refine List.ext_getElem? λi=> ?_
 by_cases hi:i < n
 ·by_cases e:d=i
  ·subst e;rw [List.getElem?_set_self (by simpa using hi),Mm hi];simp [fset]
  ·rw [List.getElem?_set_ne e,Mm hi,Mm hi];have:i≠d:=λz=>e z.symm
   simp [fset,this]
 ·rw [List.getElem?_eq_none (by simp;lia),List.getElem?_eq_none (by simp;lia)]
theorem ZHW {n:Nat} {F':Nat->Int} (h:∀i,i < n->F i=F' i):tab n F=tab n F':=by
 unfold tab;refine List.map_congr_left λi hi=> ?_
 rw [h i (List.mem_range.mp hi)]
noncomputable def col (g:Row->Int) (rs:List Row) (i:Nat):Int:=match rs[i]? with
 | some r=>g r
 | none=>0
theorem ZQW {g:Row->Int} :rs.map (λr=>D.int (g r))=tab rs.length (col g rs):=by
 refine List.ext_getElem? λi=> ?_
 by_cases hi:i < rs.length
 ·rw [Mm hi,List.getElem?_map];simp [col,List.getElem?_eq_getElem hi]
 ·rw [List.getElem?_eq_none (by simp;lia),List.getElem?_eq_none (by simp;lia)]
noncomputable def Bl (rs:List Row) (i:Nat):Option Nat:=rs[i]?.bind Row.down
theorem Ir (h:Reach rs) (e:Bl rs k=some d):k < d/\d < rs.length:=by
 unfold Bl at e;cases hr:rs[k]? with
 | none=>rw [hr] at e;cases e
 | some r=>rw [hr] at e;exact (h k r hr).dn d e
theorem Vl (hk:k < rs.length):Bl rs k=rs[k].down:=by unfold Bl;rw [List.getElem?_eq_getElem hk];rfl
theorem ZHR (hk:¬k < rs.length):Bl rs k=none:=by unfold Bl;rw [List.getElem?_eq_none (by lia)];rfl
noncomputable def gstep (F:Nat->Int) (k:Nat) (o:Option Nat):Nat->Int:=match o with
 | none=>F
 | some d=>fset F d (F d + F k)
noncomputable def gat (rs:List Row):Nat->Nat->(Nat->Int)->Nat->Int
 | 0,_,F=>F
 | m + 1,k,F=>gat rs m (k + 1) (gstep F k (Bl rs k))
noncomputable abbrev gath (rs:List Row) (F:Nat->Int):Nat->Int:=gat rs rs.length 0 F
theorem ZA9 (hk:k < rs.length):atI (rs.map Row.enc) (k:Int)=some (.tup [dnD (Bl rs k),.int (col Row.water rs k),.int (col Row.need rs k),.int (col Row.rank rs k)]):=
 Fe rfl (by rw [List.getElem?_map,Vl hk];simp [col,List.getElem?_eq_getElem hk,Row.enc])
theorem ZFN (hR:Reach rs) {t:D} {G:DH}:∀(m k:Nat) (F:Nat->Int) (x y:Option D),k + m=rs.length->∃x' y',
  Bh (Bw 2 (Aq (gV 4) (Aq (gV 3) Cg))) O7 ((Ef (rs.map Row.enc)).drop k) [some (.fl (rs.map Row.enc)),some t,some (.ref G.length),x,y] (G++ [.lst (tab rs.length F)])=
   .nx [some (.fl (rs.map Row.enc)),some t,some (.ref G.length),x',y'] (G++ [.lst (tab rs.length (gat rs m k F))])
 | 0,k,F,x,y,h=>⟨x,y,by rw [List.drop_of_length_le (by rw [Ke];simp;lia),Ed];rfl⟩
 | m + 1,k,F,x,y,h=>by
  have hk:k < rs.length:=by lia
  have e0:(Ef (rs.map Row.enc)).drop k=.tup [.int k,rs[k].enc]::(Ef (rs.map Row.enc)).drop (k + 1):=by rw [List.drop_eq_getElem_cons (by rw [Ke];simpa using hk)];simp [Ef]
  obtain ⟨x',y',ih⟩:=ZFN hR (t:=t) (G:=G) m (k + 1) (gstep F k (Bl rs k)) (some rs[k].enc) (some (.int k)) (by lia);refine ⟨x',y',?_⟩;have hb:O7 [some (.fl (rs.map Row.enc)),some t,some (.ref G.length),some rs[k].enc,some (.int k)] (G++ [.lst (tab rs.length F)])=
    .nx [some (.fl (rs.map Row.enc)),some t,some (.ref G.length),some rs[k].enc,some (.int k)] (G++ [.lst (tab rs.length (gstep F k (Bl rs k)))]):=by
   unfold O7;cases hd:Bl rs k with
   | none=>
    have:rs[k].down=none:=by rw [<-Vl hk];exact hd
    simp [Row.enc,this,dnD,gstep]
   | some d=>
    have e:rs[k].down=some d:=by rw [<-Vl hk];exact hd
    have hdn:=Ir hR hd;have g0:(G++ [DO.lst (tab rs.length F)])[G.length]? =some (.lst (tab rs.length F)):=by simp
    simp [Row.enc,e,dnD,gstep,Xi g0 (Ik hdn.2),Dq,Ik hk,Fb,Jj,hdn.2,Qt]
  rw [e0,Dk];simp [Ds,hb];exact ih
noncomputable def M8 (rs:List Row) (i:Nat):D:=.tup [dnD (Bl rs i),.int (col Row.water rs i),.int (col Row.need rs i),.int (col Row.rank rs i)]
theorem ZDy:rs.map Row.enc=(List.range rs.length).map (M8 rs):=by
 refine List.ext_getElem? λi=> ?_
 by_cases hi:i < rs.length
 ·rw [List.getElem?_map,List.getElem?_map,List.getElem?_range hi,List.getElem?_eq_getElem hi];simp [M8,Row.enc,Vl hi,col,List.getElem?_eq_getElem hi]
 ·rw [List.getElem?_eq_none (by simp;lia),List.getElem?_eq_none (by simp;lia)]
theorem ZD2 (hR:Reach rs) (hl:rs.length<=40) {t:D} (ht:Cd t G=some (tab rs.length T)):Qp [.fl (rs.map Row.enc),t] G=.ok (.ref G.length) (G++ [.lst (tab rs.length (gath rs λi=>col Row.water rs i - T i))]):=by
 obtain ⟨x',y',hL⟩:=ZFN hR (t:=t) (G:=G) rs.length 0 (λi=>col Row.water rs i - T i) none none (by lia);have hz:∀j,Hw [.fl (rs.map Row.enc),t] j G=some ((List.range rs.length).map λi=>D.tup [M8 rs i,.int (T i)])[j]? :=λj=>by
  rw [ZHH ZDn ht,Ow,ZDy,tab,List.zip_map',List.map_map]
  rfl
 let F:D->Option D:=λd=>match d with
  | .tup [.tup [_,.int w,_,_],.int v]=>some (.int (w - v))
  | _=>none
 have hc:Ec (Hw [.fl (rs.map Row.enc),t]) (Bw 2 (Aq (gV 0) (Aq (gV 1) Cg))) Ce ZBy (Bf 2 [] [some (.fl (rs.map Row.enc)),some t,none,none,none]) rs.length 0 G=.ok (tab rs.length λi=>col Row.water rs i - T i) G:=by
  rw [Vs (F:=F) hz (λx hx=> ?_) (by simp)]
  ·congr 1
   rw [List.filterMap_map];show (List.range rs.length).filterMap (λi=>some (D.int (col Row.water rs i - T i)))=_;rw [List.filterMap_eq_map']
   rfl
  ·obtain ⟨i,_,rfl⟩:=List.mem_map.mp hx;refine ⟨[some (M8 rs i),some (.int (T i))],by simp [Bf],.inr ⟨rfl,.int (col Row.water rs i - T i),?_,rfl⟩⟩;unfold ZBy;simp [M8]
 have hl2:rs.length<=1000000:=by lia
 unfold Qp ZFH;rw [Br];have hL':Bh (Bw 2 (Aq (gV 4) (Aq (gV 3) Cg))) O7 (Ef (rs.map Row.enc)) [some (.fl (rs.map Row.enc)),some t,some (.ref G.length),none,none] (G++ [.lst (tab rs.length λi=>col Row.water rs i - T i)])=_:=hL;have hcf:Ei (Er 0 (.fl (rs.map Row.enc))) (Bw 2 (Aq (gV 4) (Aq (gV 3) Cg))) O7 rs.length 0 [some (.fl (rs.map Row.enc)),some t,some (.ref G.length),none,none] (G++ [.lst (tab rs.length λi=>col Row.water rs i - T i)])=.nx [some (.fl (rs.map Row.enc)),some t,some (.ref G.length),x',y'] (G++ [.lst (tab rs.length (gath rs λi=>col Row.water rs i - T i))]):=by
  have:=ZJ2 (S:= [some (.fl (rs.map Row.enc)),some t,some (.ref G.length),none,none]) (G:=G++ [.lst (tab rs.length λi=>col Row.water rs i - T i)]) (g:=Bw 2 (Aq (gV 4) (Aq (gV 3) Cg))) (b:=O7) (xs:=rs.map Row.enc);rw [List.length_map] at this;rw [this];exact hL'
 simp [ZFT (ZDn (xs:=rs.map Row.enc)) ht,hc,Ar,hl2,hcf,Fv]
theorem ZDw {g:Row->Int} (h:∀r∈rs,0<=g r) (k:Nat):0<=col g rs k:=by
 unfold col;split
 ·rename_i r hr;exact h r (List.mem_of_getElem? hr)
 ·exact Int.le_refl _
theorem Reach.need (h:Reach rs) (k:Nat):0<=col Row.need rs k:=ZDw (λr hr=>by obtain ⟨i,hi,rfl⟩:=List.getElem_of_mem hr;exact (h i _ (List.getElem?_eq_getElem hi)).n0) k
theorem Reach.water (h:Reach rs) (k:Nat):0<=col Row.water rs k:=ZDw (λr hr=>by obtain ⟨i,hi,rfl⟩:=List.getElem_of_mem hr;exact (h i _ (List.getElem?_eq_getElem hi)).w0) k
theorem ZGL (h:bels (G.length + 1) ds=true):freeze (G++ [A]) (.ok (.ref (G.length + 1)) (G++A:: .lst ds::L))=.ok (.fl ds) (G++ [A]):=by have:=Gy (G:=G++ [A]) (ds:=ds) (L:=L) (by simpa using h);simpa using this
theorem ZN6 (h:bels (G.length + 1) ds=true):tidy (G++ [A]) (.ok (.ref (G.length + 1)) (G++A:: .lst ds::L))=.ok (.ref (G.length + 1)) (G++ [A,.lst ds]):=by have:=Fv (G:=G++ [A]) (ds:=ds) (L:=L) (by simpa using h);simpa using this
theorem ZBz {B:DO} (h:bels (G.length + 2) ds=true):freeze (G++ [A,B]) (.ok (.ref (G.length + 2)) (G++A::B:: .lst ds::L))=.ok (.fl ds) (G++ [A,B]):=by have:=Gy (G:=G++ [A,B]) (ds:=ds) (L:=L) (by simpa using h);simpa using this
noncomputable def Mf (rs:List Row):Nat->Nat->List Nat
 | 0,k=> [k]
 | m + 1,k=>k::(match Bl rs k with
  | none=> []
  | some d=>Mf rs m d)
noncomputable def way (rs:List Row) (k:Nat):List Nat:=Mf rs rs.length k
theorem ZHF (hR:Reach rs):∀(m m' k:Nat),rs.length<=m + k + 1->rs.length<=m' + k + 1->Mf rs m k=Mf rs m' k
 | 0,m',k,h,h'=>by
  have hn:Bl rs k=none:=by
   cases hd:Bl rs k with
   | none=>rfl
   | some d=>have:=Ir hR hd;lia
  cases m' with
  | zero=>rfl
  | succ m'=>simp [Mf,hn]
 | m + 1,0,k,h,h'=>by
  have hn:Bl rs k=none:=by
   cases hd:Bl rs k with
   | none=>rfl
   | some d=>have:=Ir hR hd;lia
  simp [Mf,hn]
 | m + 1,m' + 1,k,h,h'=>by
  cases hd:Bl rs k with
  | none=>simp [Mf,hd]
  | some d=>
   have:=Ir hR hd;simp [Mf,hd,ZHF hR m m' d (by lia) (by lia)]
noncomputable def K8 (rs:List Row):Option Nat->List Nat
 | none=> []
 | some d=>way rs d
theorem Jz (hR:Reach rs) (k:Nat):way rs k=k::K8 rs (Bl rs k):=by
 unfold way;rw [ZHF hR rs.length (rs.length + 1) k (by lia) (by lia)];show k::_=_;cases hd:Bl rs k with
 | none=>rfl
 | some d=>rfl
@[simp] theorem ZQx:dnD (some d)=.int d:=id rfl
noncomputable def Bb (ws:List Nat):List D:=ws.map λ(i:Nat)=>D.int (i:Int)
@[simp] theorem ZGD:bels m (Bb ws)=true:=G7 λ_ _=>rfl
@[simp] theorem ZQT:(Bb ws).length=ws.length:=by simp [Bb]
theorem ZFJ (hR:Reach rs) (hl:rs.length<=40) :∀(m:Nat) (o:Option Nat) (acc:List Nat),0 < m->(∀d,o=some d->d < rs.length/\rs.length - d < m/\acc.length + (rs.length - d)<=100)->
  sWh Nz Rq m [some (.fl (rs.map Row.enc)),x,some (.ref G.length),some (dnD o)] (G++ [.lst (Bb acc)])=.nx [some (.fl (rs.map Row.enc)),x,some (.ref G.length),some .non] (G++ [.lst (Bb (acc++K8 rs o))])
 | 0,o,acc,h0,h=>by lia
 | m + 1,none,acc,h0,h=>by
  have ht:Nz [some (.fl (rs.map Row.enc)),x,some (.ref G.length),some (dnD none)] (G++ [.lst (Bb acc)])=.ok false (G++ [.lst (Bb acc)]):=by unfold Nz;simp [dnD]
  unfold sWh;rw [ht];simp [K8,dnD]
 | m + 1,some d,acc,h0,h=>by
  obtain ⟨h1,h2,h3⟩:=h d rfl;have ht:Nz [some (.fl (rs.map Row.enc)),x,some (.ref G.length),some (dnD (some d))] (G++ [.lst (Bb acc)])=.ok true (G++ [.lst (Bb acc)]):=by unfold Nz;simp [dnD]
  have hla:acc.length < 1000000:=by lia
  have hb:Rq [some (.fl (rs.map Row.enc)),x,some (.ref G.length),some (dnD (some d))] (G++ [.lst (Bb acc)])=.nx [some (.fl (rs.map Row.enc)),x,some (.ref G.length),some (dnD (Bl rs d))] (G++ [.lst (Bb (acc++ [d]))]):=by unfold Rq;simp [Dq,Fb,hla,ZA9 h1,Bb]
  unfold sWh;rw [ht];simp only [R.Di,if_true,hb,Dv];rw [ZFJ hR hl m (Bl rs d) (acc++ [d]) (by lia) (λe he=>by have:=Ir hR he;simp;lia)]
  have:K8 rs (some d)=d::K8 rs (Bl rs d):=Jz hR d;rw [this];simp
theorem ZOb (hR:Reach rs) (hl:rs.length<=40) (hk:k < rs.length) (G:DH):Ve [.fl (rs.map Row.enc),.int k] G=.ok (.ref G.length) (G++ [.lst (Bb (way rs k))]):=by
 have hL:=ZFJ hR hl (x:=some (.int k)) (G:=G) fuel (Bl rs k) [k] (by unfold fuel;lia) (λd hd=>by have:=Ir hR hd;unfold fuel;simp;lia)
 have hL':sWh Nz Rq fuel [some (.fl (rs.map Row.enc)),some (.int k),some (.ref G.length),some (dnD (Bl rs k))] (G++ [.lst [.int k]])=_:=hL;rw [Jz hR];unfold Ve ZGF;rw [Br];simp [Ar,Fv,ZA9 hk,hL']
noncomputable def ltK (rs:List Row) (i j:Nat):Bool:=decide (col Row.rank rs i < col Row.rank rs j∨(col Row.rank rs i=col Row.rank rs j/\i < j))
theorem ZHt (rs:List Row):WO (ltK rs) where
 asy:=λi j h=>by simp only [ltK,decide_eq_true_eq,decide_eq_false_iff_not] at h ⊢;lia
 neg:=λi j k h=>by simp only [ltK,decide_eq_true_eq] at h ⊢;lia
noncomputable def ord (rs:List Row):List Nat:=if rs.length < 2 then List.range rs.length else (Cp (ltK rs) (PySem.W.kas_sort rs.length)).toList
theorem ZCe (rs:List Row):(ord rs).Perm (List.range rs.length):=by
 unfold ord;split
 ·exact .refl _
 ·exact (ZDF (ZHt rs) (by lia)).1
theorem ZHi (h:k∈ord rs):k < rs.length:=by have:=(ZCe rs).mem_iff.mp h;simpa using this
theorem ZDl (rs:List Row):(ord rs).length=rs.length:=by rw [(ZCe rs).length_eq];simp
theorem ZEj {n:Nat} {lt lt':Nat->Nat->Bool} (h:∀i j,i < n->j < n->lt i j=lt' i j) {P:α->Prop}:∀{t:PySem.W.KasT α},Safe n P t->Cp lt t=Cp lt' t
 | .ret _,_=>rfl
 | .ask i j k,hs=>by show Cp lt (k (lt i j))=Cp lt' (k (lt' i j));rw [h i j hs.1 hs.2.1];exact ZEj h (hs.2.2 _)
noncomputable def Gz (rs:List Row) (k:Nat):D:=.tup [.int (col Row.rank rs k),.int k]
theorem ZGt (i j:Nat):ltD (Gz rs i) (Gz rs j)=some (ltK rs i j):=by
 have e:ltD (Gz rs i) (Gz rs j)=if col Row.rank rs i=col Row.rank rs j then (if (i:Int)=j then some false else some (decide ((i:Int) < j))) else some (decide (col Row.rank rs i < col Row.rank rs j)):=rfl
 rw [e];by_cases h:col Row.rank rs i=col Row.rank rs j
 ·rw [if_pos h];by_cases h2:(i:Int)=j
  ·rw [if_pos h2]
   congr 1
   simp only [ltK]
   symm
   simp only [decide_eq_false_iff_not];lia
  ·rw [if_neg h2]
   congr 1
   simp only [ltK];rw [decide_eq_decide];lia
 ·rw [if_neg h]
  congr 1
  simp only [ltK];rw [decide_eq_decide];lia
noncomputable def Hf (rs:List Row):List D:=(List.range rs.length).map (Gz rs)
theorem ZB6 (h:i < rs.length):(Hf rs).getD i .non=Gz rs i:=by unfold Hf;rw [List.getD_eq_getElem?_getD,List.getElem?_map,List.getElem?_range h];rfl
theorem ZDb (rs:List Row):M7 (Hf rs)=(ord rs).map (Gz rs):=by
 have hl:(Hf rs).length=rs.length:=by simp [Hf]
 unfold M7 ord;rw [hl];split
 ·rfl
 ·rename_i h;have e:Cp (ltI (Hf rs)) (PySem.W.kas_sort rs.length)=Cp (ltK rs) (PySem.W.kas_sort rs.length):=
   ZEj (n:=rs.length) (λi j hi hj=>by unfold ltI;rw [ZB6 hi,ZB6 hj,ZGt];rfl) (ZO4 (by lia))
  rw [e];refine List.map_congr_left λi hi=> ?_
  have hp:=(ZDF (ZHt rs) (n:=rs.length) (by lia)).1;exact ZB6 (by simpa using hp.mem_iff.mp hi)
theorem ZH8 (rs:List Row):Qo (Hf rs)=true:=by
 unfold Qo Hf;rw [Bool.and_eq_true,Bool.or_eq_true];refine ⟨.inl ?_,?_⟩
 ·rw [List.all_eq_true];intro x hx;obtain ⟨i,_,rfl⟩:=List.mem_map.mp hx
  rfl
 ·rw [List.all_eq_true];intro x hx;rw [List.all_eq_true];intro y hy;obtain ⟨i,_,rfl⟩:=List.mem_map.mp hx;obtain ⟨j,_,rfl⟩:=List.mem_map.mp hy;rw [ZGt];rfl
@[simp] theorem ZJv:bels m (ws.map (Gz rs))=true:=G7 λ_ _=>by simp [Gz]
theorem ZIW (hl:rs.length<=40) (G:DH):Vu [.fl (rs.map Row.enc)] G=.ok (.ref G.length) (G++ [.lst (Bb (ord rs))]):=by
 have he:∀j,Er 0 (.fl (rs.map Row.enc)) j G=some ((List.range rs.length).map λ(k:Nat)=>D.tup [.int (k:Int),M8 rs k])[j]? :=λj=>by
  rw [W9,Ef,ZDy,List.zipIdx_map,List.map_map]
  congr 2
  refine List.ext_getElem (by simp) λi h1 h2=>by simp
 let F:D->Option D:=λd=>match d with
  | .tup [.int k,.tup [_,_,_,.int r]]=>some (.tup [.int r,.int k])
  | _=>none
 have hc:Ec (Er 0 (.fl (rs.map Row.enc))) (Bw 2 (Aq (gV 0) (Aq (gV 1) Cg))) Ce ZAp (Bf 2 [] [some (.fl (rs.map Row.enc)),none]) rs.length 0 G=.ok (Hf rs) G:=by
  rw [Vs (F:=F) he (λx hx=> ?_) (by simp)]
  ·congr 1
   rw [List.filterMap_map];show (List.range rs.length).filterMap (λi=>some (Gz rs i))=_;rw [List.filterMap_eq_map']
   rfl
  ·obtain ⟨i,_,rfl⟩:=List.mem_map.mp hx;refine ⟨[some (.int i),some (M8 rs i)],by simp [Bf],.inr ⟨rfl,Gz rs i,?_,rfl⟩⟩;unfold ZAp;simp [M8,Gz,Bq]
 let F2:D->Option D:=λd=>match d with
  | .tup [_,k]=>some k
  | _=>none
 have hc2:∀S,Eb (Bw 2 (Aq (gV 0) (Aq (gV 1) Cg))) Ce ZCh (Bf 2 [] S) ((ord rs).map (Gz rs)) G=.ok (Bb (ord rs)) G:=λS=>by
  rw [Wo (F:=F2) (λx hx=> ?_)]
  ·congr 1
   rw [List.filterMap_map];show (ord rs).filterMap (λ(i:Nat)=>some (D.int (i:Int)))=_;rw [List.filterMap_eq_map']
   rfl
  ·obtain ⟨i,_,rfl⟩:=List.mem_map.mp hx;refine ⟨[some (.int (col Row.rank rs i)),some (.int i)],by simp [Bf,Gz],.inr ⟨rfl,.int i,?_,rfl⟩⟩;unfold ZCh;simp
 have hkl:(Hf rs).length=rs.length:=by simp [Hf]
 have hl2:rs.length<=1000000:=by lia
 have hs:∀G,Rm [.fl (Hf rs)] G=.ok (.ref G.length) (G++ [.lst ((ord rs).map (Gz rs))]):=λG=>by have h1:I9 (.fl (Hf rs)) G=some (Hf rs):=rfl;simp only [Rm,h1];rw [if_pos ⟨⟨by rw [hkl];lia,by rw [ZDb];simp [ZDl];lia⟩,ZH8 rs⟩,ZDb]
 have hbk:bels G.length (Hf rs)=true:=ZJv;have hol:=ZDl rs;have hl3:(ord rs).length<=1000000:=by lia
 unfold Vu ZDZ;rw [Br];simp [hc,Ar,hkl,hl2,Gy,hbk,hs,hc2,hl3,Fv]
noncomputable def wmin (P:Nat->Int):List Nat->Int
 | []=>0
 | k::r=>(r.map P).foldl min (P k)
theorem ZPn (h:b∈ws):wmin P ws<=P b:=by
 cases ws with
 | nil=>cases h
 | cons k r=>
  obtain ⟨h1,h2,_⟩:=Yb (r.map P) (P k);rcases List.mem_cons.mp h with rfl | h
  ·exact h1
  ·exact h2 _ (List.mem_map.mpr ⟨b,h,rfl⟩)
theorem ZPu (h:ws≠ []):∃b∈ws,wmin P ws=P b:=by
 cases ws with
 | nil=>exact absurd rfl h
 | cons k r=>
  obtain ⟨_,_,h3⟩:=Yb (r.map P) (P k);rcases h3 with h3 | h3
  ·exact ⟨k,List.mem_cons_self,h3⟩
  ·obtain ⟨b,hb,e⟩:=List.mem_map.mp h3;exact ⟨b,List.mem_cons_of_mem _ hb,e.symm⟩
noncomputable def Ji (P:Nat->Int) (ws:List Nat) (t:Int):Nat->Int:=λi=>if i∈ws then P i - t else P i
noncomputable def Wy (P:Nat->Int) (t:Int) (ws:List Nat):Nat->Int:=ws.foldl (λP b=>fset P b (P b - t)) P
theorem ZEU:∀{ws:List Nat} {P:Nat->Int},ws.Nodup->Wy P t ws=Ji P ws t
 | [],P,_=>by funext i;simp [Wy,Ji]
 | b::ws,P,h=>by
  obtain ⟨h1,h2⟩:=List.nodup_cons.mp h;show Wy (fset P b (P b - t)) t ws=_;rw [ZEU h2];funext i;by_cases e:i=b
  ·subst e;simp [Ji,fset,h1]
  ·simp [Ji,fset,e]
theorem ZHv (hR:Reach rs):∀(m k:Nat),rs.length<=m + k->k < rs.length->∀b∈way rs k,k<=b/\b < rs.length
 | 0,k,h,hk,b,hb=>by lia
 | m + 1,k,h,hk,b,hb=>by
  rw [Jz hR] at hb;rcases List.mem_cons.mp hb with rfl | hb
  ·lia
  ·cases hd:Bl rs k with
   | none=>rw [hd] at hb;cases hb
   | some d=>
    have:=Ir hR hd;rw [hd] at hb;have:=ZHv hR m d (by lia) (by lia) b hb;lia
theorem Xh (hR:Reach rs) (hk:k < rs.length) (hb:b∈way rs k):k<=b/\b < rs.length:=ZHv hR rs.length k (by lia) hk b hb
theorem ZFK (hR:Reach rs):∀(m k:Nat),rs.length<=m + k->(way rs k).Nodup
 | 0,k,h=>by rw [Jz hR,ZHR (by lia)];simp [K8]
 | m + 1,k,h=>by
  rw [Jz hR];cases hd:Bl rs k with
  | none=>simp [K8]
  | some d=>
   have hlt:=Ir hR hd;refine List.nodup_cons.mpr ⟨λhm=> ?_,ZFK hR m d (by lia)⟩;have:=Xh hR hlt.2 hm;lia
theorem ZNY (hR:Reach rs) (k:Nat):(way rs k).Nodup:=ZFK hR rs.length k (by lia)
theorem ZDY (hR:Reach rs):∀(m k:Nat),rs.length<=m + k->(way rs k).length<=m + 1
 | 0,k,h=>by rw [Jz hR,ZHR (by lia)];simp [K8]
 | m + 1,k,h=>by
  rw [Jz hR];cases hd:Bl rs k with
  | none=>simp [K8]
  | some d=>
   have hlt:=Ir hR hd;have:=ZDY hR m d (by lia);show (way rs d).length + 1<=_;lia
noncomputable def take1 (rs:List Row) (P:Nat->Int) (k:Nat):Int:=min (col Row.need rs k) (wmin P (way rs k))
noncomputable def srv (rs:List Row):List Nat->(Nat->Int)->(Nat->Int)->(Nat->Int)×(Nat->Int)
 | [],P,T=>(P,T)
 | k::ks,P,T=>srv rs ks (Ji P (way rs k) (take1 rs P k)) (fset T k (take1 rs P k))
noncomputable def shr (rs:List Row):Nat->Int:=(srv rs (ord rs) (gath rs (col Row.water rs)) λ_=>0).2
noncomputable def pD (P:Nat->Int) (ws:List Nat):List D:=ws.map λi=>D.int (P i)
@[simp] theorem ZQ0:(pD P ws).length=ws.length:=by simp [pD]
@[simp] theorem ZPM:bels m (pD P ws)=true:=G7 λ_ _=>rfl
theorem ZDh {a b c d e:Option D} {t:Int} {A:DO} {G:DH}:∀(ws:List Nat) (P:Nat->Int) (x:Option D),(∀b∈ws,b < rs.length)->∃x',
  Bh (gV 6) Uv (Bb ws) [a,b,some (.ref (G.length + 1)),c,d,some (.int t),x] (G++ [A,.lst (tab rs.length P)])=.nx [a,b,some (.ref (G.length + 1)),c,d,some (.int t),x'] (G++ [A,.lst (tab rs.length (Wy P t ws))])
 | [],P,x,h=>⟨x,rfl⟩
 | w::ws,P,x,h=>by
  obtain ⟨x',ih⟩:=ZDh (a:=a) (b:=b) (c:=c) (d:=d) (e:=e) (t:=t) (A:=A) (G:=G) ws (fset P w (P w - t)) (some (.int w)) λb hb=>h b (List.mem_cons_of_mem _ hb)
  refine ⟨x',?_⟩;have hw:=h w List.mem_cons_self;have g0:(G++ [A,DO.lst (tab rs.length P)])[G.length + 1]? =some (.lst (tab rs.length P)):=Vc _ 1;have hse:∀(L:DH) o,(G++L).set (G.length + 1) o=G++L.set 1 o:=λL o=>ZCC L 1 o
  have hb:Uv [a,b,some (.ref (G.length + 1)),c,d,some (.int t),some (.int w)] (G++ [A,.lst (tab rs.length P)])=.nx [a,b,some (.ref (G.length + 1)),c,d,some (.int t),some (.int w)] (G++ [A,.lst (tab rs.length (fset P w (P w - t)))]):=by unfold Uv;simp [Xi g0 (Ik hw),g0,hse,Jj,hw,Qt]
  show Bh _ _ (.int w::Bb ws) _ _=_;rw [Dk];simp only [Ds,R.Di,List.set,hb,Dv];exact ih
theorem ZC6 {rs:List Row} (hR:Reach rs) (hl:rs.length<=40) {G:DH}:∀(ks:List Nat) (P T:Nat->Int) (x y z w:Option D),(∀k∈ks,k < rs.length)->∃x' y' z' w',
  Bh (gV 3) Rz (Bb ks) [some (.fl (rs.map Row.enc)),some (.ref G.length),some (.ref (G.length + 1)),x,y,z,w] (G++ [.lst (tab rs.length T),.lst (tab rs.length P)])=
   .nx [some (.fl (rs.map Row.enc)),some (.ref G.length),some (.ref (G.length + 1)),x',y',z',w'] (G++ [.lst (tab rs.length (srv rs ks P T).2),.lst (tab rs.length (srv rs ks P T).1)])
 | [],P,T,x,y,z,w,h=>⟨x,y,z,w,rfl⟩
 | k::ks,P,T,x,y,z,w,h=>by
  have hk:=h k List.mem_cons_self;have hwl:∀b∈way rs k,b < rs.length:=λb hb=>(Xh hR hk hb).2
  obtain ⟨w1,hsub⟩:=ZDh (rs:=rs) (a:=some (.fl (rs.map Row.enc))) (b:=some (.ref G.length)) (c:=some (.int k)) (d:=some (.fl (Bb (way rs k)))) (e:=none) (t:=take1 rs P k) (A:=.lst (tab rs.length (fset T k (take1 rs P k)))) (G:=G) (way rs k) P w hwl;rw [ZEU (ZNY hR k)] at hsub;obtain ⟨x',y',z',w',ih⟩:=ZC6 hR hl (G:=G) ks (Ji P (way rs k) (take1 rs P k)) (fset T k (take1 rs P k)) (some (.int k)) (some (.fl (Bb (way rs k)))) (some (.int (take1 rs P k))) w1 λj hj=>h j (List.mem_cons_of_mem _ hj)
  refine ⟨x',y',z',w',?_⟩;have g0:(G++ [DO.lst (tab rs.length T),DO.lst (tab rs.length P)])[G.length + 1]? =some (.lst (tab rs.length P)):=Vc _ 1;have hcomp:Eb (gV 0) Ce ZBS (Bf 1 [2] [some (.fl (rs.map Row.enc)),some (.ref G.length),some (.ref (G.length + 1)),some (.int k),some (.fl (Bb (way rs k))),z,w]) (Bb (way rs k)) (G++ [DO.lst (tab rs.length T),DO.lst (tab rs.length P)])=.ok (pD P (way rs k)) (G++ [DO.lst (tab rs.length T),DO.lst (tab rs.length P)]):=by
   rw [Wo (F:=λd=>match d with | .int i=>some (.int (P i.toNat)) | _=>none) (λq hq=> ?_)]
   ·congr 1
    unfold Bb;rw [List.filterMap_map];show (way rs k).filterMap (λ(i:Nat)=>some (D.int (P ((i:Int).toNat))))=_;rw [List.filterMap_eq_map'];simp [pD]
   ·obtain ⟨i,hi,rfl⟩:=List.mem_map.mp hq;refine ⟨[some (.int i),some (.ref (G.length + 1))],by simp [Bf],.inr ⟨rfl,.int (P i),?_,by simp⟩⟩;unfold ZBS;simp [g0,Ik (hwl i hi)]
  have hwn:(way rs k).length<=1000000:=by have h1:=ZDY hR rs.length k (by lia);lia
  have hmin:∀G,Ol [.fl (pD P (way rs k))] G=.ok (.int (wmin P (way rs k))) G:=λG=>by rw [Jz hR];exact ZLk (n:=P k) (ns:=(K8 rs (Bl rs k)).map P) (by simp [pD])
  have hfr:freeze (G++ [DO.lst (tab rs.length T),DO.lst (tab rs.length P)]) (.ok (.ref (G.length + 2)) (G++ [DO.lst (tab rs.length T),DO.lst (tab rs.length P),.lst (pD P (way rs k))]))=.ok (.fl (pD P (way rs k))) (G++ [DO.lst (tab rs.length T),DO.lst (tab rs.length P)]):=ZBz ZPM;have hfw:freeze (G++ [DO.lst (tab rs.length T),DO.lst (tab rs.length P)]) (.ok (.ref (G.length + 2)) (G++ [DO.lst (tab rs.length T),DO.lst (tab rs.length P),.lst (Bb (way rs k))]))=.ok (.fl (Bb (way rs k))) (G++ [DO.lst (tab rs.length T),DO.lst (tab rs.length P)]):=ZBz ZGD
  have hb:Rz [some (.fl (rs.map Row.enc)),some (.ref G.length),some (.ref (G.length + 1)),some (.int k),y,z,w] (G++ [.lst (tab rs.length T),.lst (tab rs.length P)])=
    .nx [some (.fl (rs.map Row.enc)),some (.ref G.length),some (.ref (G.length + 1)),some (.int k),some (.fl (Bb (way rs k))),some (.int (take1 rs P k)),w1] (G++ [.lst (tab rs.length (fset T k (take1 rs P k))),.lst (tab rs.length (Ji P (way rs k) (take1 rs P k)))]):=by
   unfold Rz;have ht1:min (col Row.need rs k) (wmin P (way rs k))=take1 rs P k:=rfl;simp [ZOb hR hl hk,hfw,ZA9 hk,hcomp,Ar,hwn,hfr,hmin,ht1,Dq,Fb,Jj,hk,Qt,hsub]
  show Bh _ _ (.int k::Bb ks) _ _=_;rw [Dk];simp only [Ds,R.Di,List.set,hb,Dv];exact ih
theorem ZNc (hR:Reach rs) (hl:rs.length<=40) (G:DH):Y5 [.fl (rs.map Row.enc)] G=.ok (.ref G.length) (G++ [.lst (tab rs.length (shr rs))]):=by
 have hz:List.replicate rs.length (D.int 0)=tab rs.length λ_=>0:=by unfold tab;refine List.ext_getElem (by simp) λi h1 h2=>by simp
 have hrep:Kg (.ref G.length) (.int (rs.length:Int)) (G++ [.lst [.int 0]])=.ok (.ref (G.length + 1)) (G++ [.lst [.int 0],.lst (tab rs.length λ_=>0)]):=by rw [ZFo (d:=.int 0) (by rw [Dq];rfl) (by lia),hz];simp
 have ht1:tidy G (.ok (.ref (G.length + 1)) (G++ [.lst [.int 0],.lst (tab rs.length λ_=>0)]))=.ok (.ref G.length) (G++ [.lst (tab rs.length λ_=>0)]):=Zz _ (k:=1) rfl Ml;have hp:Qp [.fl (rs.map Row.enc),.ref G.length] (G++ [.lst (tab rs.length λ_=>0)])=.ok (.ref (G.length + 1)) (G++ [.lst (tab rs.length λ_=>0),.lst (tab rs.length (gath rs (col Row.water rs)))]):=by rw [ZD2 hR hl (T:=λ_=>0) (ZKX (by rw [Dq];rfl))];simp
 have ht2:tidy (G++ [.lst (tab rs.length λ_=>0)]) (.ok (.ref (G.length + 1)) (G++ [.lst (tab rs.length λ_=>0),.lst (tab rs.length (gath rs (col Row.water rs)))]))=.ok (.ref (G.length + 1)) (G++ [.lst (tab rs.length λ_=>0),.lst (tab rs.length (gath rs (col Row.water rs)))]):=ZN6 Ml;have hfs:freeze (G++ [.lst (tab rs.length λ_=>0),.lst (tab rs.length (gath rs (col Row.water rs)))]) (.ok (.ref (G.length + 2)) (G++ [.lst (tab rs.length λ_=>0),.lst (tab rs.length (gath rs (col Row.water rs))),.lst (Bb (ord rs))]))=.ok (.fl (Bb (ord rs))) (G++ [.lst (tab rs.length λ_=>0),.lst (tab rs.length (gath rs (col Row.water rs)))]):=ZBz ZGD
 obtain ⟨x',y',z',w',hL⟩:=ZC6 hR hl (G:=G) (ord rs) (gath rs (col Row.water rs)) (λ_=>0) none none none none λk hk=>ZHi hk
 have hfin:∀A,tidy G (.ok (.ref G.length) (G++ [.lst (tab rs.length (shr rs)),A]))=.ok (.ref G.length) (G++ [.lst (tab rs.length (shr rs))]):=λA=>Fv Ml
 have hL':Bh (gV 3) Rz (Bb (ord rs)) [some (.fl (rs.map Row.enc)),some (.ref G.length),some (.ref (G.length + 1)),none,none,none,none] (G++ [.lst (tab rs.length λ_=>0),.lst (tab rs.length (gath rs (col Row.water rs)))])=
   .nx [some (.fl (rs.map Row.enc)),some (.ref G.length),some (.ref (G.length + 1)),x',y',z',w'] (G++ [.lst (tab rs.length (shr rs)),.lst (tab rs.length (srv rs (ord rs) (gath rs (col Row.water rs)) λ_=>0).1)]):=hL
 unfold Y5 ZDj;rw [Br];simp [Ar,hrep,ht1,hp,ht2,ZIW hl,hfs,hL',hfin]
noncomputable def ind (t:Int) (ws:List Nat):Nat->Int:=λi=>if i∈ws then t else 0
theorem ZCo (hR:Reach rs) :∀(m j:Nat) (A:Nat->Int),k < j->gat rs m j (λi=>A i + ind t [k] i)=λi=>gat rs m j A i + ind t [k] i
 | 0,j,A,h=>rfl
 | m + 1,j,A,h=>by
  unfold gat;have e:gstep (λi=>A i + ind t [k] i) j (Bl rs j)=λi=>gstep A j (Bl rs j) i + ind t [k] i:=by
   cases hd:Bl rs j with
   | none=>rfl
   | some d=>
    have:=Ir hR hd;funext i;simp only [gstep,fset,ind,List.mem_singleton];have h1:j≠k:=by lia
    have h2:d≠k:=by lia
    by_cases hi:i=d
    ·subst hi;simp [h1,h2]
    ·simp [hi]
  rw [e,ZCo hR m (j + 1) _ (by lia)]
theorem Z8 (hR:Reach rs) :∀(m j k:Nat) (A:Nat->Int),j + m=rs.length->j<=k->k < rs.length->gat rs m j (λi=>A i + ind t [k] i)=λi=>gat rs m j A i + ind t (way rs k) i
 | 0,j,k,A,h,h1,h2=>by lia
 | m + 1,j,k,A,h,h1,h2=>by
  unfold gat;by_cases hjk:j < k
  ·have e:gstep (λi=>A i + ind t [k] i) j (Bl rs j)=λi=>gstep A j (Bl rs j) i + ind t [k] i:=by
    cases hd:Bl rs j with
    | none=>rfl
    | some d=>
     funext i;simp only [gstep,fset,ind,List.mem_singleton];have h3:j≠k:=by lia
     by_cases hi:i=d
     ·subst hi;simp [h3];split <;> lia
     ·simp [hi]
   rw [e,Z8 hR m (j + 1) k _ (by lia) (by lia) h2]
  ·have ej:j=k:=by lia
   subst ej;cases hd:Bl rs j with
   | none=>
    have hw:way rs j= [j]:=by rw [Jz hR,hd];rfl
    show gat rs m (j + 1) (λi=>A i + ind t [j] i)=_;rw [ZCo hR m (j + 1) A (by lia),hw]
    rfl
   | some d=>
    have hlt:=Ir hR hd;have hw:way rs j=j::way rs d:=by rw [Jz hR,hd];rfl
    have e:gstep (λi=>A i + ind t [j] i) j (some d)=λi=>(gstep A j (some d) i + ind t [d] i) + ind t [j] i:=by
     funext i;simp only [gstep,fset,ind,List.mem_singleton];have h3:d≠j:=by lia
     by_cases hi:i=d
     ·subst hi;simp [h3];lia
     ·simp [hi]
    rw [e,ZCo hR m (j + 1) _ (by lia),Z8 hR m (j + 1) d _ (by lia) (by lia) hlt.2];funext i;have hnj:j ∉ way rs d:=λhm=>by have:=Xh hR hlt.2 hm;lia
    simp only [ind,hw,List.mem_cons,List.mem_singleton];by_cases hi:i=j
    ·subst hi;simp [hnj]
    ·simp [hi]
theorem ZOr (hR:Reach rs) {W:Nat->Int} (hk:k < rs.length) (h0:T k=0):gath rs (λi=>W i - fset T k t i)=Ji (gath rs λi=>W i - T i) (way rs k) t:=by
 have e:(λi=>W i - fset T k t i)=λi=>(W i - T i) + ind (-t) [k] i:=by
  funext i;simp only [fset,ind,List.mem_singleton];by_cases hi:i=k
  ·subst hi;simp [h0];lia
  ·simp [hi]
 rw [e];show gat rs rs.length 0 _=_;rw [Z8 hR rs.length 0 k _ (by lia) (by lia) hk];funext i;simp only [ind,Ji,gath]
 split <;> lia
theorem ZD8:∀(m k:Nat) (F:Nat->Int),(∀i,0<=F i)->∀i,0<=gat rs m k F i
 | 0,k,F,h,i=>h i
 | m + 1,k,F,h,i=>by
  refine ZD8 m (k + 1) _ (λj=> ?_) i;cases Bl rs k with
  | none=>exact h j
  | some d=>
   simp only [gstep,fset];have:=h d;have:=h k;have:=h j
   split <;> lia
structure SI (rs:List Row) (P T:Nat->Int):Prop where
 pg:P=gath rs λi=>col Row.water rs i - T i
 t0:∀i,0<=T i
 tn:∀i,T i<=col Row.need rs i
 p0:∀i,i < rs.length->0<=P i
theorem ZMN (h:∀b∈ws,0<=P b):0<=wmin P ws:=by
 cases ws with
 | nil=>exact Int.le_refl _
 | cons k r=>
  obtain ⟨b,hb,e⟩:=ZPu (P:=P) (ws:=k::r) (by simp);rw [e];exact h b hb
theorem SI.take (hR:Reach rs) (s:SI rs P T) (hk:k < rs.length):0<=take1 rs P k/\take1 rs P k<=col Row.need rs k/\∀b∈way rs k,take1 rs P k<=P b:=by
 have h1:0<=wmin P (way rs k):=ZMN λb hb=>s.p0 b (Xh hR hk hb).2
 have h2:=hR.need k;unfold take1;refine ⟨by lia,by lia,λb hb=> ?_⟩;have:=ZPn (P:=P) hb;lia
theorem SI.step (hR:Reach rs) (s:SI rs P T) (hk:k < rs.length) (h0:T k=0):SI rs (Ji P (way rs k) (take1 rs P k)) (fset T k (take1 rs P k)):=by
 obtain ⟨a,b,c⟩:=s.take hR hk;refine ⟨?_,λi=> ?_,λi=> ?_,λi hi=> ?_⟩
 ·rw [ZOr hR hk h0,<-s.pg]
 ·simp only [fset];split
  ·exact a
  ·exact s.t0 i
 ·simp only [fset];split
  ·rename_i e;rw [e];exact b
  ·exact s.tn i
 ·simp only [Ji];split
  ·rename_i hm;have:=c i hm;lia
  ·exact s.p0 i hi
theorem SI.run (hR:Reach rs):∀(ks:List Nat) (P T:Nat->Int),SI rs P T->ks.Nodup->(∀k∈ks,k < rs.length/\T k=0)->SI rs (srv rs ks P T).1 (srv rs ks P T).2
 | [],P,T,s,_,_=>s
 | k::ks,P,T,s,nd,h=>by
  obtain ⟨n1,n2⟩:=List.nodup_cons.mp nd;obtain ⟨hk,h0⟩:=h k List.mem_cons_self;refine SI.run hR ks _ _ (s.step hR hk h0) n2 λj hj=> ?_
  obtain ⟨hj1,hj2⟩:=h j (List.mem_cons_of_mem _ hj);have:j≠k:=λe=>n1 (e ▸ hj)
  exact ⟨hj1,by simp [fset,this,hj2]⟩
theorem ZOh (rs:List Row):(ord rs).Nodup:=(ZCe rs).nodup_iff.mpr List.nodup_range
theorem SI.first (hR:Reach rs):SI rs (gath rs (col Row.water rs)) λ_=>0:=
 ⟨by simp,λ_=>Int.le_refl _,hR.need,λi _=>ZD8 _ _ _ hR.water i⟩
theorem ZCk (hR:Reach rs):SI rs (srv rs (ord rs) (gath rs (col Row.water rs)) λ_=>0).1 (shr rs):=
 SI.run hR (ord rs) _ _ (SI.first hR) (ZOh rs) λk hk=>⟨ZHi hk,rfl⟩
theorem rp:¬(("pump":Str)="river"):=by decide
theorem pr:¬(("river":Str)="pump"):=by decide
structure Stp where
 h:Int
 m:Int
 r:Bool
variable {st:List Stp}
noncomputable def wy (r:Bool):Str:=if r then "river" else "pump"
noncomputable def Stp.enc (s:Stp):D:=.tup [.int s.h,.int s.m,.str (wy s.r)]
@[simp] theorem ZQF {n:Nat} :bels n (st.map Stp.enc)=true:=G7 λs _=>by simp [Stp.enc]
@[simp] theorem ZQv {r:Bool}:(wy r="river")=(r=true):=by
 cases r
 ·exact propext ⟨λh=>absurd h rp,λh=>by cases h⟩
 ·exact propext ⟨λh=>rfl,λ_=>rfl⟩
@[simp] theorem ZQB {r:Bool}:(wy r="pump")=(r=false):=by
 cases r
 ·exact propext ⟨λh=>rfl,λ_=>rfl⟩
 ·exact propext ⟨λh=>absurd h pr,λh=>by cases h⟩
noncomputable abbrev Ssn:=Int×List Stp
noncomputable def Df (s:Ssn):D:=.tup [.int s.1,.tup (s.2.map Stp.enc)]
@[simp] theorem ZQ1 {n:Nat} {ss:List Ssn}:bels n (ss.map Df)=true:=G7 λs _=>by simp [Df]
noncomputable def held (t:Int):List Ssn->List Stp->List Stp
 | [],h=>h
 | s::r,h=>held t r (if s.1<=t then s.2 else h)
theorem ZD5 {c:D} {t:Int} {G:DH}:∀{ss:List Ssn} {h:List Stp} {a b:Option D},∃a' b',Bh (Bw 2 (Aq (gV 3) (Aq (gV 4) Cg))) Wh (ss.map Df) [some c,some (.int t),some (.tup (h.map Stp.enc)),a,b] G=
  .nx [some c,some (.int t),some (.tup ((held t ss h).map Stp.enc)),a',b'] G
 | [],h,a,b=>⟨a,b,by rw [List.map_nil,Ed];rfl⟩
 | s::r,h,a,b=>by
  obtain ⟨a',b',ih⟩:=ZD5 (c:=c) (t:=t) (G:=G) (ss:=r) (h:=if s.1<=t then s.2 else h) (a:=some (.int s.1)) (b:=some (.tup (s.2.map Stp.enc)));refine ⟨a',b',?_⟩;have hb:Wh [some c,some (.int t),some (.tup (h.map Stp.enc)),some (.int s.1),some (.tup (s.2.map Stp.enc))] G=.nx [some c,some (.int t),some (.tup ((if s.1<=t then s.2 else h).map Stp.enc)),some (.int s.1),some (.tup (s.2.map Stp.enc))] G:=by
   unfold Wh
   by_cases h1:s.1<=t <;> simp [h1]
  rw [List.map_cons,Dk];simp only [Df,T3,Tr,Sy,Ds,R.Kv,R.Di,List.set,hb,Dv,List.length_cons,List.length_nil,Nat.reduceAdd,if_true];exact ih
theorem c_at {ss:List Ssn} :Us [.tup (ss.map Df),.int t] G=.ok (.tup ((held t ss []).map Stp.enc)) G:=by obtain ⟨a,b,h⟩:=ZD5 (c:=.tup (ss.map Df)) (t:=t) (G:=G) (ss:=ss) (h:= []) (a:=none) (b:=none);unfold Us ZFh;rw [Br];simp at h;simp [h,Bx]
noncomputable def cub (w:Int) (s:Stp):Int:=max 0 (min s.m (w - s.h))
noncomputable def rv (w:Int):List Stp->Int
 | []=>0
 | s::r=>(if s.r then cub w s else 0) + rv w r
noncomputable def pm (w:Int):List Stp->Int
 | []=>0
 | s::r=>(if s.r then 0 else cub w s) + pm w r
theorem ZGS {c:D} {w:Int} {G:DH}:∀{st:List Stp} {a b:Int} {e f g h:Option D},∃e' f' g' h',Bh (Bw 3 (Aq (gV 4) (Aq (gV 5) (Aq (gV 6) Cg)))) Xd (st.map Stp.enc) [some c,some (.int w),some (.int a),some (.int b),e,f,g,h] G=
  .nx [some c,some (.int w),some (.int (a + rv w st)),some (.int (b + pm w st)),e',f',g',h'] G
 | [],a,b,e,f,g,h=>⟨e,f,g,h,by simp [Ed,rv,pm]⟩
 | s::r,a,b,e,f,g,h=>by
  obtain ⟨e',f',g',h',ih⟩:=ZGS (c:=c) (w:=w) (G:=G) (st:=r) (a:=a + (if s.r then cub w s else 0)) (b:=b + (if s.r then 0 else cub w s)) (e:=some (.int s.h)) (f:=some (.int s.m)) (g:=some (.str (wy s.r))) (h:=some (.int (cub w s)));refine ⟨e',f',g',h',?_⟩;have hb:Xd [some c,some (.int w),some (.int a),some (.int b),some (.int s.h),some (.int s.m),some (.str (wy s.r)),h] G=.nx [some c,some (.int w),some (.int (a + (if s.r then cub w s else 0))),some (.int (b + (if s.r then 0 else cub w s))),some (.int s.h),some (.int s.m),some (.str (wy s.r)),some (.int (cub w s))] G:=by
   unfold Xd cub
   cases s.r <;> simp
  rw [List.map_cons,Dk];simp [Stp.enc,hb];rw [ih];simp [rv,pm,Int.add_assoc]
theorem ZHf:Wx [.tup (st.map Stp.enc),.int w] G=.ok (.tup [.int (rv w st),.int (pm w st),.int (w - rv w st - pm w st)]) G:=by obtain ⟨e,f,g,h,hl⟩:=ZGS (c:=.tup (st.map Stp.enc)) (w:=w) (G:=G) (st:=st) (a:=0) (b:=0) (e:=none) (f:=none) (g:=none) (h:=none);unfold Wx ZGe;rw [Br];simp at hl;simp [hl,Bx]
inductive Kd where
 | basin (brim:Int) (rule:List Ssn) (pump:Option (Nat×Nat×Int))
 | town (need rank:Int)
 | mill (most:Int)
structure Pl where
 nm:Str
 dn:Option Nat
 dl:Nat
 kd:Kd
noncomputable def Zk:Pl:=⟨"",none,0,.mill 0⟩
structure Hs where
 yr:Int
 ps:List Pl
variable {h:Hs}
noncomputable def Kd.txt:Kd->Str
 | .basin ..=>"basin"
 | .town ..=>"town"
 | .mill ..=>"mill"
noncomputable def Kd.isB:Kd->Bool
 | .basin ..=>true
 | _=>false
noncomputable def Kd.isT:Kd->Bool
 | .town ..=>true
 | _=>false
noncomputable def Hs.pl (h:Hs) (k:Nat):Pl:=h.ps.getD k Zk
noncomputable def Hs.n (h:Hs):Nat:=h.ps.length
noncomputable def Hs.dnT (h:Hs):Option Nat->Str
 | none=>"sea"
 | some d=>(h.pl d).nm
noncomputable def Hs.Ny (h:Hs):Option (Nat×Nat×Int)->D
 | none=>.non
 | some (to,dl,m)=>.tup [.str (h.pl to).nm,.int dl,.int m]
noncomputable def Hs.encP (h:Hs) (p:Pl):D:=match p.kd with
 | .basin b r q=>.tup [.str "basin",.str p.nm,.str (h.dnT p.dn),.int p.dl,.int b,.tup (r.map Df),h.Ny q]
 | .town a b=>.tup [.str "town",.str p.nm,.str (h.dnT p.dn),.int p.dl,.int a,.int b]
 | .mill a=>.tup [.str "mill",.str p.nm,.str (h.dnT p.dn),.int p.dl,.int a]
noncomputable def Hs.Dh (h:Hs):List D:=h.ps.map h.encP
noncomputable def Hs.enc (h:Hs):D:=.tup [.int h.yr,.tup h.Dh]
noncomputable def Good:Int->List Stp->Prop
 | _,[]=>True
 | t,s::r=>t<=s.h/\1<=s.m/\Good (s.h + s.m) r
structure GoodH (h:Hs):Prop where
 yr:0 < h.yr
 len:h.n<=12
 inj:∀i j,i < h.n->j < h.n->(h.pl i).nm=(h.pl j).nm->i=j
 sea:∀i,i < h.n->(h.pl i).nm≠"sea"
 dn:∀k d,k < h.n->(h.pl k).dn=some d->k < d/\d < h.n
 dl:∀k,k < h.n->(h.pl k).dl<=5
 pump:∀k b r to dl m,k < h.n->(h.pl k).kd=.basin b r (some (to,dl,m))->to < h.n/\1<=dl/\dl<=5
 brim:∀k b r q,k < h.n->(h.pl k).kd=.basin b r q->0<=b/\∀s∈r,Good 0 s.2
 town:∀k a b,k < h.n->(h.pl k).kd=.town a b->0<=a/\0<=b
theorem Hs.Lx:h.Dh.length=h.n:=by simp [Hs.Dh,Hs.n]
theorem Hs.ZEC (hk:k < h.n):h.Dh[k]? =some (h.encP (h.pl k)):=by unfold Hs.Dh Hs.pl;rw [List.getElem?_map,List.getElem?_eq_getElem hk];simp [List.getD_eq_getElem?_getD,List.getElem?_eq_getElem hk]
theorem Hs.Ey (hk:k < h.n):atI h.Dh (k:Int)=some (h.encP (h.pl k)):=Fe rfl (Hs.ZEC hk)
theorem Hs.ZOq {n:Nat} :bel n (h.Ny q)=true:=by
 cases q with
 | none=>rfl
 | some x=>obtain ⟨a,b,c⟩:=x;simp [Hs.Ny]
@[simp] theorem Hs.ZMe {n:Nat} {p:Pl}:bel n (h.encP p)=true:=by
 unfold Hs.encP
 cases p.kd <;> simp [Hs.ZOq]
@[simp] theorem Hs.ZQ4 {n:Nat}:bels n h.Dh=true:=G7 λ_ _=>Hs.ZMe
section
variable {h:Hs} {p:Pl} {G:DH}
@[simp] theorem encP0:Aj (h.encP p) (.int 0) G=.ok (.str p.kd.txt) G:=by
 unfold Hs.encP
 cases p.kd <;> simp [Kd.txt]
@[simp] theorem encP1:Aj (h.encP p) (.int 1) G=.ok (.str p.nm) G:=by
 unfold Hs.encP
 cases p.kd <;> simp
@[simp] theorem encP2:Aj (h.encP p) (.int 2) G=.ok (.str (h.dnT p.dn)) G:=by
 unfold Hs.encP
 cases p.kd <;> simp
@[simp] theorem encP3:Aj (h.encP p) (.int 3) G=.ok (.int p.dl) G:=by
 unfold Hs.encP
 cases p.kd <;> simp
theorem Dm:Aj h.enc (.int 1) G=.ok (.tup h.Dh) G:=by unfold Hs.enc;simp
theorem ZK1:Aj h.enc (.int 0) G=.ok (.int h.yr) G:=by unfold Hs.enc;simp
theorem Iu {k:Kd}:(k.txt="basin")=(k.isB=true):=by cases k <;> simp [Kd.txt,Kd.isB] <;> decide
theorem Mj {k:Kd}:(k.txt="town")=(k.isT=true):=by cases k <;> simp [Kd.txt,Kd.isT] <;> decide
end
theorem ZFd (g:GoodH h) (hd:d < h.n) :∀(m k:Nat) (a b:Option D),k + m=d->
  Bh (Bw 2 (Aq (gV 2) (Aq (gV 3) Cg))) Qz ((Ef h.Dh).drop k) [some h.enc,some (.str (h.pl d).nm),a,b] G=.rt (.int d) G
 | m,k,a,b,e=>by
  have hk:k < h.n:=by lia
  have e0:(Ef h.Dh).drop k=.tup [.int k,h.encP (h.pl k)]::(Ef h.Dh).drop (k + 1):=by rw [List.drop_eq_getElem_cons (by rw [Ke,Hs.Lx];exact hk)];have:=Hs.ZEC hk;rw [List.getElem?_eq_getElem (by rw [Hs.Lx];exact hk)] at this;have e2:=Option.some.inj this;simp [Ef,e2]
  rw [e0,Dk];cases m with
  | zero=>
   have e1:k=d:=by lia
   subst e1;have hb:Qz [some h.enc,some (.str (h.pl k).nm),some (.int k),some (h.encP (h.pl k))] G=.rt (.int k) G:=by unfold Qz;simp
   simp [hb]
  | succ m=>
   have hne:(h.pl k).nm≠(h.pl d).nm:=λz=>by have:=g.inj k d hk hd z;lia
   have hb:Qz [some h.enc,some (.str (h.pl d).nm),some (.int k),some (h.encP (h.pl k))] G=.nx [some h.enc,some (.str (h.pl d).nm),some (.int k),some (h.encP (h.pl k))] G:=by unfold Qz;simp [hne]
   simp [hb];exact ZFd g hd m (k + 1) _ _ (by lia)
theorem ZDq (g:GoodH h) (hd:d < h.n) (G:DH):Ri [h.enc,.str (h.pl d).nm] G=.ok (.int d) G:=by have hL:=ZFd g hd (G:=G) d 0 none none (by lia);rw [List.drop_zero] at hL;unfold Ri ZE3;rw [Br];simp [Dm,Iz,Lf,lenOf,hL,Bx]
noncomputable def Hs.dn (h:Hs) (k:Nat):Option Nat:=(h.pl k).dn
theorem Nu (g:GoodH h) (hk:k < h.n) (G:DH):Tn [h.enc,.int k] G=.ok (dnD (h.dn k)) G:=by
 unfold Tn ZFw;rw [Br];cases hd:h.dn k with
 | none=>
  have e:(h.pl k).dn=none:=hd;simp [Dm,Hs.Ey hk,e,Hs.dnT,dnD,Bx]
 | some d=>
  have e:(h.pl k).dn=some d:=hd;have hl:=g.dn k d hk e;simp [Dm,Hs.Ey hk,e,Hs.dnT,g.sea d hl.2,ZDq g hl.2,dnD,Bx]
noncomputable def Hs.dir (h:Hs) (k:Nat):Option Nat:=match h.dn k with
 | none=>none
 | some d=>if 0 < (h.pl k).dl∨(h.pl k).kd.isB=true∨(h.pl d).kd.isB=true then none else some d
theorem Qg (g:GoodH h) (hk:k < h.n) (G:DH):S6 [h.enc,.int k] G=.ok (dnD (h.dir k)) G:=by
 unfold S6 ZGG;rw [Br];cases hd:h.dn k with
 | none=>simp [Dm,Nu g hk,hd,Hs.dir,dnD,Bx]
 | some d=>
  have hl:=g.dn k d hk hd;by_cases h1:0 < (h.pl k).dl
  ·simp [Dm,Nu g hk,hd,Hs.dir,dnD,Bx,Hs.Ey hk,h1]
  ·by_cases h2:(h.pl k).kd.isB=true
   ·simp [Dm,Nu g hk,hd,Hs.dir,dnD,Bx,Hs.Ey hk,h1,Iu,h2]
   ·by_cases h3:(h.pl d).kd.isB=true
    ·simp [Dm,Nu g hk,hd,Hs.dir,dnD,Bx,Hs.Ey hk,Hs.Ey hl.2,h1,Iu,h2,h3]
    ·simp [Dm,Nu g hk,hd,Hs.dir,dnD,Bx,Hs.Ey hk,Hs.Ey hl.2,h1,Iu,h2,h3]
theorem ZLj (g:GoodH h) (hk:k < h.n) (e:h.dir k=some d):k < d/\d < h.n:=by
 unfold Hs.dir at e;cases hd:h.dn k with
 | none=>rw [hd] at e;cases e
 | some d'=>
  rw [hd] at e;simp only at e;split at e
  ·cases e
  ·cases e;exact g.dn k d hk hd
theorem ZMq (hk:¬k < h.n):h.pl k=Zk:=by
 unfold Hs.pl;rw [List.getD_eq_getElem?_getD,List.getElem?_eq_none (by unfold Hs.n at hk;lia)]
 rfl
theorem Qx (hk:¬k < h.n):h.dir k=none:=by
 have e:h.dn k=none:=by unfold Hs.dn;rw [ZMq hk];rfl
 unfold Hs.dir;rw [e]
theorem Kf (g:GoodH h) (e:h.dir k=some d):k < d/\d < h.n/\k < h.n:=by
 by_cases hk:k < h.n
 ·have:=ZLj g hk e;lia
 ·rw [Qx hk] at e;cases e
noncomputable def Hs.K3 (h:Hs):Nat->Nat->Nat
 | 0,k=>k
 | m + 1,k=>match h.dir k with
  | none=>k
  | some d=>h.K3 m d
noncomputable def Hs.last (h:Hs) (k:Nat):Nat:=h.K3 h.n k
theorem ZCO (g:GoodH h):∀(m m' k:Nat),h.n<=m + k->h.n<=m' + k->h.K3 m k=h.K3 m' k
 | 0,m',k,e,e'=>by
  have hn:h.dir k=none:=Qx (by lia);cases m' with
  | zero=>rfl
  | succ m'=>simp [Hs.K3,hn]
 | m + 1,0,k,e,e'=>by have hn:h.dir k=none:=Qx (by lia);simp [Hs.K3,hn]
 | m + 1,m' + 1,k,e,e'=>by
  cases hd:h.dir k with
  | none=>simp [Hs.K3,hd]
  | some d=>
   have:=Kf g hd;simp [Hs.K3,hd,ZCO g m m' d (by lia) (by lia)]
theorem Ja (g:GoodH h) (e:h.dir k=none):h.last k=k:=by unfold Hs.last;rw [ZCO g h.n (h.n + 1) k (by lia) (by lia)];simp [Hs.K3,e]
theorem Jx (g:GoodH h) (e:h.dir k=some d):h.last k=h.last d:=by unfold Hs.last;rw [ZCO g h.n (h.n + 1) k (by lia) (by lia)];simp [Hs.K3,e]
theorem ZE4 (g:GoodH h):∀(m k:Nat),h.n<=m + k->k<=h.last k/\(k < h.n->h.last k < h.n)
 | 0,k,e=>by rw [Ja g (Qx (by lia))];lia
 | m + 1,k,e=>by
  cases hd:h.dir k with
  | none=>rw [Ja g hd];lia
  | some d=>
   have:=Kf g hd;rw [Jx g hd];have:=ZE4 g m d (by lia);lia
theorem Jc (g:GoodH h) (k:Nat):k<=h.last k/\(k < h.n->h.last k < h.n):=ZE4 g h.n k (by lia)
noncomputable def Hs.Hj (h:Hs) (j:Nat):Nat->Int:=λi=>if j<=i then h.last i else i
theorem ZEB (g:GoodH h) {G:DH}:∀(j:Nat) (x y:Option D),j<=h.n->∃x' y',
  Bh (gV 2) Y9 (Ld ((j:Int) - 1) j) [some h.enc,some (.ref G.length),x,y] (G++ [.lst (tab h.n (h.Hj j))])=.nx [some h.enc,some (.ref G.length),x',y'] (G++ [.lst (tab h.n (h.Hj 0))])
 | 0,x,y,e=>⟨x,y,by rw [ZH6,Ed]⟩
 | j + 1,x,y,e=>by
  have hj:j < h.n:=by lia
  obtain ⟨x',y',ih⟩:=ZEB g (G:=G) j (some (.int j)) (some (dnD (h.dir j))) (by lia);refine ⟨x',y',?_⟩;have e1:(((j + 1:Nat):Int) - 1)=j:=by lia
  have hb:Y9 [some h.enc,some (.ref G.length),some (.int j),y] (G++ [.lst (tab h.n (h.Hj (j + 1)))])=.nx [some h.enc,some (.ref G.length),some (.int j),some (dnD (h.dir j))] (G++ [.lst (tab h.n (h.Hj j))]):=by
   unfold Y9;cases hd:h.dir j with
   | none=>
    have et:tab h.n (h.Hj (j + 1))=tab h.n (h.Hj j):=ZHW λi hi=>by
     unfold Hs.Hj;by_cases e2:i=j
     ·subst e2;rw [Ja g hd];simp
     ·by_cases e3:j<=i
      ·rw [if_pos e3,if_pos (by lia)]
      ·rw [if_neg e3,if_neg (by lia)]
    simp [Qg g hj,hd,dnD,et]
   | some d=>
    have hl:=Kf g hd;have et:tab h.n (fset (h.Hj (j + 1)) j (h.Hj (j + 1) d))=tab h.n (h.Hj j):=ZHW λi hi=>by
     unfold Hs.Hj fset;by_cases e2:i=j
     ·subst e2;rw [if_pos rfl,if_pos (by lia),if_pos (by lia),Jx g hd]
     ·rw [if_neg e2];dsimp only;by_cases e3:j<=i
      ·rw [if_pos e3,if_pos (by lia)]
      ·rw [if_neg e3,if_neg (by lia)]
    simp [Qg g hj,hd,dnD,Dq,Ik hl.2.1,Fb,Jj,hj,Qt,et]
  rw [e1,ZK0,Dk];simp only [Ds,R.Di,List.set,hb,Dv];exact ih
theorem ZI0 (g:GoodH h) (G:DH):X7 [h.enc] G=.ok (.ref G.length) (G++ [.lst (tab h.n λi=>(h.last i:Int))]):=by
 obtain ⟨x',y',hL⟩:=ZEB g (G:=G) h.n none none (Nat.le_refl _);have e0:tab h.n (h.Hj h.n)=Cq 0 h.n:=by
  unfold tab Cq;refine List.map_congr_left λi hi=> ?_
  have:=List.mem_range.mp hi;unfold Hs.Hj;rw [if_neg (by lia)];simp
 have e1:h.Hj 0=λi=>(h.last i:Int):=by funext i;unfold Hs.Hj;simp
 rw [e0,e1] at hL;have hn:=g.len;have r1:inR (h.n:Int):=Hz (by lia) (by lia);have r2:inR ((h.n:Int) - 1):=Hz (by lia) (by lia);have r3:inR (-1):=Hz (by lia) (by lia);have e2:((h.n:Int) - 1 - -1).toNat=h.n:=by lia
 have h6:(h.n:Int)<=1000000:=by lia
 have ebr:bels G.length (Cq 0 h.n)=true:=G7 λ_ _=>rfl
 unfold X7 ZGI;rw [Br];simp [Dm,Hs.Lx,r1,h6,Fv ebr,r2,r3,ZMu,e2,hL,Fv]
noncomputable def Hs.mem (h:Hs) (m:Nat):List Nat:=(List.range h.n).filter λk=>decide (h.last k=m)
theorem mem_iff:k∈h.mem m↔k < h.n/\h.last k=m:=by unfold Hs.mem;rw [List.mem_filter,List.mem_range];simp
theorem Rg:(h.mem m).Pairwise (· < ·):=List.Pairwise.filter _ List.pairwise_lt_range
theorem ZDH:(h.mem m).length<=h.n:=by have:=List.length_filter_le (λk=>decide (h.last k=m)) (List.range h.n);simpa [Hs.mem] using this
theorem ZKV (hs:ms.Pairwise (· < ·)) (hi:i < ms.length) (hj:j < ms.length) (h:ms[i] < ms[j]):i < j:=by
 rcases Nat.lt_trichotomy i j with z | z | z
 ·exact z
 ·subst z;lia
 ·have:=List.pairwise_iff_getElem.mp hs j i hj hi z;lia
theorem ZDr (g:GoodH h) (hm:m < h.n) (e:h.last m=m):(h.mem m).getLast?=some m:=by
 have hmem:m∈h.mem m:=mem_iff.mpr ⟨hm,e⟩;have hne:h.mem m≠ []:=λz=>by rw [z] at hmem;cases hmem
 rw [List.getLast?_eq_some_getLast hne]
 congr 1
 have h1:=mem_iff.mp (List.getLast_mem hne);have h2:=(Jc g ((h.mem m).getLast hne)).1;obtain ⟨i,hi,ei⟩:=List.getElem_of_mem hmem;have h3:m<=(h.mem m).getLast hne:=by
  rw [List.getLast_eq_getElem];by_cases e4:i=(h.mem m).length - 1
  ·subst e4;lia
  ·have:=List.pairwise_iff_getElem.mp (Rg (h:=h) (m:=m)) i ((h.mem m).length - 1) hi (by lia) (by lia);lia
 lia
noncomputable def Hs.need (h:Hs) (k:Nat):Int:=match (h.pl k).kd with
 | .town a _=>a
 | _=>0
noncomputable def Hs.rank (h:Hs) (k:Nat):Int:=match (h.pl k).kd with
 | .town _ b=>b
 | _=>0
noncomputable def Hs.row (h:Hs) (ms:List Nat) (ca:Nat->Int) (k:Nat):Row:=⟨(h.dir k).map λd=>ms.idxOf d,ca k,h.need k,h.rank k⟩
noncomputable def Hs.rows (h:Hs) (ms:List Nat) (ca:Nat->Int):List Row:=ms.map (h.row ms ca)
theorem idx_map (d:Nat):∀ms:List Nat,(ms.map λ(i:Nat)=>(i:Int)).idxOf (d:Int)=ms.idxOf d
 | []=>rfl
 | m::ms=>by
  rw [List.map_cons,List.idxOf_cons,List.idxOf_cons,idx_map d ms];by_cases e:m=d
  ·subst e;simp
  ·have e2:¬((m:Int)=d):=by lia
   have b1:((m:Int) == (d:Int))=false:=by simp [e2]
   have b2:(m == d)=false:=by simp [e]
   rw [b1,b2]
theorem ZF4 (g:GoodH h) (hm:∀k∈ms,k < h.n/\∀d,h.dir k=some d->d∈ms) (hl:ms.length<=40) {p:Nat} (hp:G[p]? =some (.lst (tab h.n ca))):∀(ks:List Nat) (acc:List Row) (x1 x2 x3 x4:Option D),(∀k∈ks,k∈ms)->acc.length + ks.length<=40->∃y1 y2 y3 y4,
  Bh (gV 4) Su (Bb ks) [some h.enc,some (.fl (Bb ms)),some (.ref p),some (.ref G.length),x1,x2,x3,x4] (G++ [.lst (acc.map Row.enc)])=
   .nx [some h.enc,some (.fl (Bb ms)),some (.ref p),some (.ref G.length),y1,y2,y3,y4] (G++ [.lst ((acc++ks.map (h.row ms ca)).map Row.enc)])
 | [],acc,x1,x2,x3,x4,_,_=>⟨x1,x2,x3,x4,by simp [Bb,Ed]⟩
 | k::ks,acc,x1,x2,x3,x4,hk,ha=>by
  obtain ⟨hkn,hkd⟩:=hm k (hk k List.mem_cons_self);obtain ⟨y1,y2,y3,y4,ih⟩:=ZF4 g hm hl hp ks (acc++ [h.row ms ca k]) (some (.int k)) (some (h.encP (h.pl k))) (some (dnD (h.dir k))) (some (dnD ((h.dir k).map λd=>ms.idxOf d))) (λj hj=>hk j (List.mem_cons_of_mem _ hj)) (by simp at ha ⊢;lia);refine ⟨y1,y2,y3,y4,?_⟩;have hpl:p < G.length:=(List.getElem?_eq_some_iff.mp hp).1;have hgp:∀L:DH,(G++L)[p]? =some (.lst (tab h.n ca)):=λL=>by rw [List.getElem?_append_left hpl];exact hp
  have ha2:acc.length < 1000000:=by simp at ha;lia
  have ht:h.row ms ca k=⟨(h.dir k).map λd=>ms.idxOf d,ca k,h.need k,h.rank k⟩:=rfl;have hb:Su [some h.enc,some (.fl (Bb ms)),some (.ref p),some (.ref G.length),some (.int k),x2,x3,x4] (G++ [.lst (acc.map Row.enc)])=
    .nx [some h.enc,some (.fl (Bb ms)),some (.ref p),some (.ref G.length),some (.int k),some (h.encP (h.pl k)),some (dnD (h.dir k)),some (dnD ((h.dir k).map λd=>ms.idxOf d))] (G++ [.lst ((acc++ [h.row ms ca k]).map Row.enc)]):=by
   have hix:∀d,h.dir k=some d->∀G',Px (.fl (Bb ms)) [.int (d:Int)] G'=.ok (.int (ms.idxOf d:Nat)) G':=λd hd G'=>by
    have e:Bb ms=(ms.map λ(i:Nat)=>(i:Int)).map D.int:=by simp [Bb]
    rw [e,ZKr (ns:=ms.map λ(i:Nat)=>(i:Int)) (by simp [I9]) (List.mem_map.mpr ⟨d,hkd d hd,rfl⟩) (by simp;lia),idx_map]
   unfold Su;by_cases hT:(h.pl k).kd.isT=true
   ·obtain ⟨a,b,ek⟩:∃a b,(h.pl k).kd=.town a b:=by
     cases e:(h.pl k).kd with
     | town a b=>exact ⟨a,b,rfl⟩
     | basin _ _ _=>rw [e] at hT;cases hT
     | mill _=>rw [e] at hT;cases hT
    have e4:∀G',Aj (h.encP (h.pl k)) (.int 4) G'=.ok (.int a) G':=λG'=>by unfold Hs.encP;rw [ek];simp
    have e5:∀G',Aj (h.encP (h.pl k)) (.int 5) G'=.ok (.int b) G':=λG'=>by unfold Hs.encP;rw [ek];simp
    have en:h.need k=a:=by unfold Hs.need;rw [ek]
    have er:h.rank k=b:=by unfold Hs.rank;rw [ek]
    cases hd:h.dir k with
    | none=>simp [Dm,Hs.Ey hkn,Qg g hkn,hd,dnD,Mj,hT,hgp,Ik hkn,e4,e5,Bq,Dq,Fb,ha2,ht,Row.enc,en,er]
    | some d=>simp [Dm,Hs.Ey hkn,Qg g hkn,hd,dnD,hix d hd,Mj,hT,hgp,Ik hkn,e4,e5,Bq,Dq,Fb,ha2,ht,Row.enc,en,er]
   ·have en:h.need k=0:=by
     unfold Hs.need;cases e:(h.pl k).kd with
     | town a b=>rw [e] at hT;exact absurd rfl hT
     | basin _ _ _=>rfl
     | mill _=>rfl
    have er:h.rank k=0:=by
     unfold Hs.rank;cases e:(h.pl k).kd with
     | town a b=>rw [e] at hT;exact absurd rfl hT
     | basin _ _ _=>rfl
     | mill _=>rfl
    cases hd:h.dir k with
    | none=>simp [Dm,Hs.Ey hkn,Qg g hkn,hd,dnD,Mj,hT,hgp,Ik hkn,Bq,Dq,Fb,ha2,ht,Row.enc,en,er]
    | some d=>simp [Dm,Hs.Ey hkn,Qg g hkn,hd,dnD,hix d hd,Mj,hT,hgp,Ik hkn,Bq,Dq,Fb,ha2,ht,Row.enc,en,er]
  show Bh _ _ (.int k::Bb ks) _ _=_;rw [Dk];simp only [Ds,R.Di,List.set,hb,Dv];rw [ih];simp
theorem ZI4 (g:GoodH h) (hm:∀k∈ms,k < h.n/\∀d,h.dir k=some d->d∈ms) (hl:ms.length<=40) {p:Nat} (hp:G[p]? =some (.lst (tab h.n ca))):
  V5 [h.enc,.fl (Bb ms),.ref p] G=.ok (.ref G.length) (G++ [.lst ((h.rows ms ca).map Row.enc)]):=by
 obtain ⟨y1,y2,y3,y4,hL⟩:=ZF4 g hm hl hp ms [] none none none none (λk hk=>hk) (by simpa using hl);have hL':Bh (gV 4) Su (Bb ms) [some h.enc,some (.fl (Bb ms)),some (.ref p),some (.ref G.length),none,none,none,none] (G++ [.lst []])=.nx [some h.enc,some (.fl (Bb ms)),some (.ref p),some (.ref G.length),y1,y2,y3,y4] (G++ [.lst ((h.rows ms ca).map Row.enc)]):=hL;unfold V5 ZFu;rw [Br];simp [Ar,Fv,hL']
theorem Rk (g:GoodH h) (hc:∀k,k < h.n->0<=ca k):Reach (h.rows (h.mem m) ca):=λi r hr=>by
 have hil:i < (h.mem m).length:=by have:=(List.getElem?_eq_some_iff.mp hr).1;simpa [Hs.rows] using this
 have e:r=h.row (h.mem m) ca (h.mem m)[i]:=by unfold Hs.rows at hr;rw [List.getElem?_map,List.getElem?_eq_getElem hil] at hr;simpa using hr.symm
 obtain ⟨hk,hlast⟩:=mem_iff.mp (List.getElem_mem hil);subst e;refine ⟨λd hd=> ?_,hc _ hk,?_,?_⟩
 ·have hd':(h.dir (h.mem m)[i]).map (λd=>(h.mem m).idxOf d)=some d:=hd;cases e:h.dir (h.mem m)[i] with
  | none=>rw [e] at hd';cases hd'
  | some d0=>
   rw [e] at hd';have ed:(h.mem m).idxOf d0=d:=by simpa using hd'
   have hl:=Kf g e;have hmem:d0∈h.mem m:=mem_iff.mpr ⟨hl.2.1,by rw [<-Jx g e];exact hlast⟩;have hlt:=List.idxOf_lt_length_of_mem hmem;have hg:(h.mem m)[(h.mem m).idxOf d0]=d0:=List.getElem_idxOf hlt;subst ed;refine ⟨ZKV Rg hil hlt (by rw [hg];exact hl.1),by simpa [Hs.rows] using hlt⟩
 ·show 0<=h.need _;unfold Hs.need;cases e:(h.pl (h.mem m)[i]).kd with
  | town a b=>exact (g.town _ a b hk e).1
  | basin _ _ _=>exact Int.le_refl _
  | mill _=>exact Int.le_refl _
 ·show 0<=h.rank _;unfold Hs.rank;cases e:(h.pl (h.mem m)[i]).kd with
  | town a b=>exact (g.town _ a b hk e).2
  | basin _ _ _=>exact Int.le_refl _
  | mill _=>exact Int.le_refl _
structure Cs where
 came:Nat->Int
 coming:Nat->Nat->Int
 page:Nat->List Int
 rea:List D
variable {s:Cs}
noncomputable def Jd (l:List Int):D:=match l with
 | []=>.non
 | _=>.tup (l.map D.int)
@[simp] theorem ZLC {n:Nat} :bel n (Jd l)=true:=by
 cases l with
 | nil=>rfl
 | cons a l=>simp only [Jd,DL.bel];exact ZCi
noncomputable def cfl (ds:List D):List (Str×D):=(["house","levels","year_turn","came","coming","page","reaches"]:List Str).zip ds
noncomputable def cflds (i n:Nat) (H LV:D) (yt:Int):List (Str×D):=cfl [H,LV,.int yt,.ref (i + 1),.ref (i + (2 + n)),.ref (i + (3 + n)),.ref (i + (4 + n))]
noncomputable def Cu (n:Nat) (pg:Nat->List Int):List D:=(List.range n).map λk=>Jd (pg k)
noncomputable def Eg (i n:Nat):List D:=(List.range n).map λk=>D.ref (i + (2 + k))
noncomputable def csT (i n:Nat) (H LV:D) (yt:Int) (s:Cs):DH:=.ins "Course" (cflds i n H LV yt):: .lst (tab n s.came)::((List.range n).map (λk=>DO.lst (tab 5 (s.coming k)))++ [.lst (Eg i n),.lst (Cu n s.page),.lst s.rea])
noncomputable def csH (G:DH) (n:Nat) (H LV:D) (yt:Int) (s:Cs):DH:=G++csT G.length n H LV yt s
theorem ZKD {n:Nat} {yt:Int} :(csT i n H LV yt s).length=n + 5:=by simp [csT]
theorem ZGs {n:Nat} {yt:Int} :(csH G n H LV yt s).length=G.length + (n + 5):=by unfold csH;rw [List.length_append,ZKD]
section
variable {G:DH} {n:Nat} {H LV:D} {yt:Int} {s:Cs}
theorem Qy (j:Nat):(csH G n H LV yt s)[G.length + j]? =(csT G.length n H LV yt s)[j]? :=Vc _ j
theorem Ka:(csH G n H LV yt s)[G.length]? =some (.ins "Course" (cflds G.length n H LV yt)):=Qy 0
theorem Rt:(csH G n H LV yt s)[G.length + 1]? =some (.lst (tab n s.came)):=Qy 1
theorem W7:(csT i n H LV yt s)[2 + j]? =((List.range n).map (λk=>DO.lst (tab 5 (s.coming k)))++ [.lst (Eg i n),.lst (Cu n s.page),.lst s.rea])[j]? :=by
 have e:2 + j=j + 1 + 1:=by lia
 rw [e]
 rfl
theorem ZCG (hk:k < n):(csH G n H LV yt s)[G.length + (2 + k)]? =some (.lst (tab 5 (s.coming k))):=by
 rw [Qy,W7,List.getElem?_append_left (by simpa using hk),List.getElem?_map,List.getElem?_range hk]
 rfl
theorem Y7:(csH G n H LV yt s)[G.length + (2 + n)]? =some (.lst (Eg G.length n)):=by rw [Qy,W7,List.getElem?_append_right (by simp)];simp
theorem Mq:(csH G n H LV yt s)[G.length + (3 + n)]? =some (.lst (Cu n s.page)):=by
 have e:3 + n=2 + (n + 1):=by lia
 rw [e,Qy,W7,List.getElem?_append_right (by simp)];simp
theorem csHe:(csH G n H LV yt s)[G.length + (4 + n)]? =some (.lst s.rea):=by
 have e:4 + n=2 + (n + 2):=by lia
 rw [e,Qy,W7,List.getElem?_append_right (by simp)];simp
theorem Xw (j:Nat) (o:DO):(csH G n H LV yt s).set (G.length + j) o=G++(csT G.length n H LV yt s).set j o:=ZCC _ j o
theorem csS1:(csH G n H LV yt s).set (G.length + 1) (.lst (tab n ca))=csH G n H LV yt {s with came:=ca}:=Xw 1 _
noncomputable def upd2 (co:Nat->Nat->Int) (k:Nat) (r:Nat->Int):Nat->Nat->Int:=λi=>if i=k then r else co i
theorem ZBQ {o:DO}:(csT i n H LV yt s).set (2 + j) o=.ins "Course" (cflds i n H LV yt):: .lst (tab n s.came)::((List.range n).map (λk=>DO.lst (tab 5 (s.coming k)))++ [DO.lst (Eg i n),DO.lst (Cu n s.page),DO.lst s.rea]).set j o:=by
 have e:2 + j=j + 1 + 1:=by lia
 rw [e]
 rfl
theorem csSr (hk:k < n) {r:Nat->Int}:(csH G n H LV yt s).set (G.length + (2 + k)) (.lst (tab 5 r))=csH G n H LV yt {s with coming:=upd2 s.coming k r}:=by
 rw [Xw,ZBQ,List.set_append_left _ _ (by simpa using hk)];unfold csH csT
 congr 3
 congr 1
 refine List.ext_getElem? λi=> ?_
 by_cases hi:i < n
 ·by_cases e:k=i
  ·subst e;rw [List.getElem?_set_self (by simpa using hi),List.getElem?_map,List.getElem?_range hi];simp [upd2]
  ·rw [List.getElem?_set_ne e,List.getElem?_map,List.getElem?_range hi,List.getElem?_map,List.getElem?_range hi];have:i≠k:=λz=>e z.symm
   simp [upd2,this]
 ·rw [List.getElem?_eq_none (by simp;lia),List.getElem?_eq_none (by simp;lia)]
theorem Vt:(csH G n H LV yt s).set (G.length + (3 + n)) (.lst (Cu n pg))=csH G n H LV yt {s with page:=pg}:=by
 have e:3 + n=2 + (n + 1):=by lia
 rw [e,Xw,ZBQ,List.set_append_right _ _ (by simp)];unfold csH csT;simp
theorem csSe {re:List D}:(csH G n H LV yt s).set (G.length + (4 + n)) (.lst re)=csH G n H LV yt {s with rea:=re}:=by
 have e:4 + n=2 + (n + 2):=by lia
 rw [e,Xw,ZBQ,List.set_append_right _ _ (by simp)];unfold csH csT;simp
theorem Kw:Js "Course" "house" (.ref G.length) (csH G n H LV yt s)=.ok H (csH G n H LV yt s):=Nk Ka rfl
theorem ZGP:Js "Course" "levels" (.ref G.length) (csH G n H LV yt s)=.ok LV (csH G n H LV yt s):=Nk Ka rfl
theorem ZHB:Js "Course" "year_turn" (.ref G.length) (csH G n H LV yt s)=.ok (.int yt) (csH G n H LV yt s):=Nk Ka rfl
theorem Vf:Js "Course" "came" (.ref G.length) (csH G n H LV yt s)=.ok (.ref (G.length + 1)) (csH G n H LV yt s):=Nk Ka rfl
theorem ZC5:Js "Course" "coming" (.ref G.length) (csH G n H LV yt s)=.ok (.ref (G.length + (2 + n))) (csH G n H LV yt s):=Nk Ka rfl
theorem Qh:Js "Course" "page" (.ref G.length) (csH G n H LV yt s)=.ok (.ref (G.length + (3 + n))) (csH G n H LV yt s):=Nk Ka rfl
theorem ZL6:Js "Course" "reaches" (.ref G.length) (csH G n H LV yt s)=.ok (.ref (G.length + (4 + n))) (csH G n H LV yt s):=Nk Ka rfl
theorem Km {m:Str} {F:List D->DH->R D} {t:DA} (hm:∀i,(cflds i n H LV yt).lookup m=none):Ur "Course" m F t S (.ref G.length) (csH G n H LV yt s)=(t S (csH G n H LV yt s)).bind λds G2=>F (.ref G.length::ds) G2:=ZN1 Ka (hm _)
theorem ZEO:∀i,(cflds i n H LV yt).lookup ("send":Str)=none:=λ_=>rfl
theorem Yu:∀i,(cflds i n H LV yt).lookup ("send_down":Str)=none:=λ_=>rfl
theorem ZKF:∀i,(cflds i n H LV yt).lookup ("go_basin":Str)=none:=λ_=>rfl
theorem ZKO:∀i,(cflds i n H LV yt).lookup ("go_reach":Str)=none:=λ_=>rfl
theorem ZIN:∀i,(cflds i n H LV yt).lookup ("go":Str)=none:=λ_=>rfl
theorem ZPd:∀i,(cflds i n H LV yt).lookup ("state_behind":Str)=none:=λ_=>rfl
theorem Mg {s':Cs} {d:D} (hb:∀m,bel m d=true):tidy (csH G n H LV yt s) (.ok d (csH G n H LV yt s'))=.ok d (csH G n H LV yt s'):=ZOF (by rw [ZGs,ZGs]) (hb _)
theorem ZO2 (hk:k < n):atI (Eg i n) (k:Int)=some (.ref (i + (2 + k))):=Fe rfl (by unfold Eg;rw [List.getElem?_map,List.getElem?_range hk];rfl)
theorem ZOH:(Cu n pg).set k (Jd l)=Cu n λi=>if i=k then l else pg i:=by
 unfold Cu;refine List.ext_getElem? λi=> ?_
 by_cases hi:i < n
 ·by_cases e:k=i
  ·subst e;rw [List.getElem?_set_self (by simpa using hi),List.getElem?_map,List.getElem?_range hi];simp
  ·rw [List.getElem?_set_ne e,List.getElem?_map,List.getElem?_range hi,List.getElem?_map,List.getElem?_range hi];have:i≠k:=λz=>e z.symm
   simp [this]
 ·rw [List.getElem?_eq_none (by simp;lia),List.getElem?_eq_none (by simp;lia)]
@[simp] theorem Vq:(Cu n pg).length=n:=by simp [Cu]
noncomputable def Cs.send (s:Cs) (to dl:Nat) (c:Int):Cs:=if dl=0 then {s with came:=fset s.came to (s.came to + c)} else {s with coming:=upd2 s.coming to (fset (s.coming to) (dl - 1) (s.coming to (dl - 1) + c))}
theorem ZEn (ht:to < n) (hd:dl<=5):Rb [.ref G.length,.int to,.int dl,.int c] (csH G n H LV yt s)=.ok .non (csH G n H LV yt (s.send to dl c)):=by
 unfold Rb ZGR;rw [Br];by_cases h0:dl=0
 ·subst h0;simp [Vf,Xi Rt (Ik ht),Rt,Jj,ht,Qt,csS1,Cs.send,Mg]
 ·have e:((dl:Int) - 1)=((dl - 1:Nat):Int):=by lia
  have h1:dl - 1 < 5:=by lia
  simp [h0,ZC5,Y7,ZO2 ht,e,Xi (ZCG ht) (Ik h1),ZCG ht,Jj,h1,Qt,csSr ht,Cs.send,Mg]
end
noncomputable def Hs.Fo (h:Hs) (s:Cs) (k:Nat) (c:Int):Cs:=match h.dn k with
 | none=>s
 | some d=>s.send d (h.pl k).dl c
section
variable {G:DH} {h:Hs} {lv:Nat->Int} {yt:Int} {s:Cs}
theorem ZAt (g:GoodH h) (hk:k < h.n) :Sq [.ref G.length,.int k,.int c] (csH G h.n h.enc LV yt s)=.ok .non (csH G h.n h.enc LV yt (h.Fo s k c)):=by
 unfold Sq ZFD;rw [Br];cases hd:h.dn k with
 | none=>simp [Kw,Nu g hk,hd,dnD,Hs.Fo,Mg]
 | some d=>
  have hl:=g.dn k d hk hd;simp [Kw,Nu g hk,hd,dnD,Km ZEO,Dm,Hs.Ey hk,ZEn hl.2 (g.dl k hk),Hs.Fo,Mg]
theorem Wa {n:Nat} {b d f:Int}:(Cu n pg).set k (.tup [.int a,.int b,.int c,.int d,.int e,.int f])=Cu n λi=>if i=k then [a,b,c,d,e,f] else pg i:=ZOH (l:= [a,b,c,d,e,f])
noncomputable def Hs.basin (h:Hs) (yt:Int) (lv:Nat->Int) (s:Cs) (k:Nat):Cs:=match (h.pl k).kd with
 | .basin brim rule pump=>
  let w:=lv k + s.came k;let st:=held yt rule [];let stays:=w - rv w st - pm w st;let lies:=min stays brim;let s1:Cs:={s with page:=λi=>if i=k then [s.came k,0,stays - lies,rv w st,pm w st,lies] else s.page i};let s2:=h.Fo s1 k (rv w st + (stays - lies))
  match pump with
  | none=>s2
  | some (to,dl,_)=>s2.send to dl (pm w st)
 | _=>s
theorem ZOS (g:GoodH h) (hk:k < h.n) (hB:(h.pl k).kd.isB=true):Vz [.ref G.length,.int k] (csH G h.n h.enc (.tup (tab h.n lv)) yt s)=.ok .non (csH G h.n h.enc (.tup (tab h.n lv)) yt (h.basin yt lv s k)):=by
 obtain ⟨brim,rule,pump,ek⟩:∃a b c,(h.pl k).kd=.basin a b c:=by
  cases e:(h.pl k).kd with
  | basin a b c=>exact ⟨a,b,c,rfl⟩
  | town _ _=>rw [e] at hB;cases hB
  | mill _=>rw [e] at hB;cases hB
 have e4:∀G',Aj (h.encP (h.pl k)) (.int 4) G'=.ok (.int brim) G':=λG'=>by unfold Hs.encP;rw [ek];simp
 have e5:∀G',Aj (h.encP (h.pl k)) (.int 5) G'=.ok (.tup (rule.map Df)) G':=λG'=>by unfold Hs.encP;rw [ek];simp
 have e6:∀G',Aj (h.encP (h.pl k)) (.int 6) G'=.ok (h.Ny pump) G':=λG'=>by unfold Hs.encP;rw [ek];simp
 simp only [Hs.basin,ek];unfold Vz ZEY;rw [Br];cases hp:pump with
 | none=>simp [Kw,Dm,Hs.Ey hk,Vf,Rt,Ik hk,e5,ZHB,c_at,ZGP,ZHf,e4,Bq,Qh,Mq,Jj,hk,Wa,Vt,Km Yu,ZAt g hk,e6,hp,Hs.Ny,Mg]
 | some q=>
  obtain ⟨to,dl,mo⟩:=q;have hl:=g.pump k brim rule to dl mo hk (by rw [ek,hp]);simp [Kw,Dm,Hs.Ey hk,Vf,Rt,Ik hk,e5,ZHB,c_at,ZGP,ZHf,e4,Bq,Qh,Mq,Jj,hk,Wa,Vt,Km Yu,ZAt g hk,e6,hp,Hs.Ny,Km ZEO,ZDq g hl.1,ZEn hl.1 hl.2.2,Mg]
end
noncomputable def z3 (ms:List Nat) (T L:Nat->Int):List D:=(List.range ms.length).map λi=>D.tup [.int (ms.getD i 0:Nat),.int (T i),.int (L i)]
theorem ZJC {L:Nat->Int} (j:Nat) (G:DH):Hw [.fl (Bb ms),.fl (tab ms.length T),.fl (tab ms.length L)] j G=some (z3 ms T L)[j]? :=by
 unfold Hw z3;by_cases hj:j < ms.length
 ·have e1:(Bb ms)[j]? =some (.int (ms.getD j 0:Nat)):=by unfold Bb;rw [List.getElem?_map,List.getElem?_eq_getElem hj];simp [List.getD_eq_getElem?_getD,List.getElem?_eq_getElem hj]
  simp [Ip,e1,Mm hj,List.getElem?_range hj]
 ·have e1:(Bb ms)[j]? =none:=List.getElem?_eq_none (by simp;lia);have e2:(List.range ms.length)[j]? =none:=List.getElem?_eq_none (by simp;lia);simp [Ip,e1,e2]
noncomputable def rrow (T L:Nat->Int) (i:Nat):List Int:= [T i + L i,T i,0,L i,0,0]
noncomputable def pgM (ms:List Nat) (T L:Nat->Int) (pg:Nat->List Int) (i:Nat):Nat->List Int:=λk=>if k∈ms.take i then rrow T L (ms.idxOf k) else pg k
theorem ZK8 {L:Nat->Int} :pgM ms T L pg 0=pg:=by funext k;simp [pgM]
theorem ZDf (nd:ms.Nodup) (hi:i < ms.length) (hj:j < ms.length) (e:ms[i]=ms[j]):i=j:=by
 rcases Nat.lt_trichotomy i j with z | z | z
 ·exact absurd e (List.pairwise_iff_getElem.mp nd i j hi hj z)
 ·exact z
 ·exact absurd e.symm (List.pairwise_iff_getElem.mp nd j i hj hi z)
theorem ZBf (nd:ms.Nodup) (hi:i < ms.length):ms.idxOf ms[i]=i:=by have hl:=List.idxOf_lt_length_of_mem (List.getElem_mem hi);exact ZDf nd hl hi (List.getElem_idxOf hl)
theorem ZNB (nd:ms.Nodup) {L:Nat->Int} (hi:i < ms.length):pgM ms T L pg (i + 1)=λk=>if k=ms.getD i 0 then rrow T L i else pgM ms T L pg i k:=by
 have eg:ms.getD i 0=ms[i]:=by simp [List.getD_eq_getElem?_getD,List.getElem?_eq_getElem hi]
 funext k;rw [eg];unfold pgM;rw [List.take_succ_eq_append_getElem hi];by_cases e:k=ms[i]
 ·subst e;rw [if_pos rfl,if_pos (List.mem_append.mpr (.inr (List.mem_singleton.mpr rfl))),ZBf nd hi]
 ·rw [if_neg e];have:(k∈ms.take i++ [ms[i]])↔k∈ms.take i:=by rw [List.mem_append,List.mem_singleton];exact ⟨λh=>h.elim id λz=>absurd z e,.inl⟩
  simp only [this]
section
variable {G:DH} {h:Hs} {LV:D} {yt:Int}
theorem ZGg (g:GoodH h) (hms:∀k∈ms,k < h.n) (nd:ms.Nodup) (hlast:ms.getLast?=some m) {T L:Nat->Int} {s:Cs} {r t:D}:∀(q i:Nat) (x y z:Option D),i + q=ms.length->0 < q->∃x' y' z',
  Bh (Bw 3 (Aq (gV 4) (Aq (gV 5) (Aq (gV 6) Cg)))) M5 ((z3 ms T L).drop i) [some (.ref G.length),some (.fl (Bb ms)),some r,some t,x,y,z] (csH G h.n h.enc LV yt {s with page:=pgM ms T L s.page i})=
   .nx [some (.ref G.length),some (.fl (Bb ms)),some r,some t,x',y',z'] (csH G h.n h.enc LV yt (h.Fo {s with page:=pgM ms T L s.page ms.length} m (L (ms.length - 1))))
 | 0,i,x,y,z,e,h0=>by lia
 | q + 1,i,x,y,z,e,h0=>by
  have hi:i < ms.length:=by lia
  have eg:ms.getD i 0=ms[i]:=by simp [List.getD_eq_getElem?_getD,List.getElem?_eq_getElem hi]
  have hk:ms.getD i 0 < h.n:=by rw [eg];exact hms _ (List.getElem_mem hi)
  have hmn:m < h.n:=hms m (List.mem_of_getLast? hlast);have e0:(z3 ms T L).drop i=.tup [.int (ms.getD i 0:Nat),.int (T i),.int (L i)]::(z3 ms T L).drop (i + 1):=by rw [List.drop_eq_getElem_cons (by simp [z3];exact hi)];simp [z3]
  have hneg:atI (Bb ms) (-1)=some (.int (m:Nat)):=by
   have hl:0 < ms.length:=by lia
   rw [ZMP (by decide) (by simp;lia)]
   congr 1
   have e3:((-1:Int) + ((Bb ms).length:Int)).toNat=ms.length - 1:=by simp;lia
   simp only [e3];unfold Bb;rw [List.getElem_map];have e4:ms[ms.length - 1]'(by lia)=m:=by have:=List.getLast?_eq_getElem? (l:=ms);rw [hlast,List.getElem?_eq_getElem (by lia)] at this;exact (Option.some.inj this).symm
   rw [e4]
  have hpg:(λk=>if k=ms.getD i 0 then [T i + L i,T i,0,L i,0,0] else pgM ms T L s.page i k)=pgM ms T L s.page (i + 1):=(ZNB nd hi).symm;rw [e0,Dk];cases q with
  | zero=>
   have ei:i=ms.length - 1:=by lia
   have em:ms.getD i 0=m:=by have:=List.getLast?_eq_getElem? (l:=ms);rw [hlast,List.getElem?_eq_getElem (by lia)] at this;rw [eg];subst ei;exact (Option.some.inj this).symm
   have hb:M5 [some (.ref G.length),some (.fl (Bb ms)),some r,some t,some (.int (ms.getD i 0:Nat)),some (.int (T i)),some (.int (L i))] (csH G h.n h.enc LV yt {s with page:=pgM ms T L s.page i})=
     .nx [some (.ref G.length),some (.fl (Bb ms)),some r,some t,some (.int (ms.getD i 0:Nat)),some (.int (T i)),some (.int (L i))] (csH G h.n h.enc LV yt (h.Fo {s with page:=pgM ms T L s.page ms.length} m (L (ms.length - 1)))):=by
    have e5:i + 1=ms.length:=by lia
    rw [e5] at hpg;unfold M5;simp only [em] at hk hpg ⊢;simp [Bq,Qh,Mq,Jj,hk,Wa,hpg,Vt,hneg,Km Yu,ZAt g hmn,<-ei]
   refine ⟨some (.int (ms.getD i 0:Nat)),some (.int (T i)),some (.int (L i)),?_⟩;rw [List.drop_of_length_le (by simp [z3];lia)];simp only [T3,Tr,Sy,Ds,R.Kv,R.Di,List.set,hb,Dv,List.length_cons,List.length_nil,Nat.reduceAdd,if_true,Ed]
  | succ q=>
   have hne:ms.getD i 0≠m:=λz=>by have h1:=List.getLast?_eq_getElem? (l:=ms);rw [hlast,List.getElem?_eq_getElem (by lia)] at h1;have h2:=Option.some.inj h1;rw [eg,h2] at z;have:=ZDf nd hi (by lia) z;lia
   have hne':¬((ms.getD i 0:Nat):Int)=(m:Int):=by lia
   have hb:M5 [some (.ref G.length),some (.fl (Bb ms)),some r,some t,some (.int (ms.getD i 0:Nat)),some (.int (T i)),some (.int (L i))] (csH G h.n h.enc LV yt {s with page:=pgM ms T L s.page i})=
     .nx [some (.ref G.length),some (.fl (Bb ms)),some r,some t,some (.int (ms.getD i 0:Nat)),some (.int (T i)),some (.int (L i))] (csH G h.n h.enc LV yt {s with page:=pgM ms T L s.page (i + 1)}):=by
    unfold M5;generalize ms.getD i 0=a at hk hpg hne';simp [Bq,Qh,Mq,Jj,hk,Wa,hpg,Vt,hneg,hne']
   obtain ⟨x',y',z',ih⟩:=ZGg g hms nd hlast (T:=T) (L:=L) (s:=s) (r:=r) (t:=t) (q + 1) (i + 1) (some (.int (ms.getD i 0:Nat))) (some (.int (T i))) (some (.int (L i))) (by lia) (by lia);refine ⟨x',y',z',?_⟩;simp only [T3,Tr,Sy,Ds,R.Kv,R.Di,List.set,hb,Dv,List.length_cons,List.length_nil,Nat.reduceAdd,if_true];exact ih
noncomputable def Hs.Ii (h:Hs) (s:Cs) (m:Nat):Nat->Int:=shr (h.rows (h.mem m) s.came)
noncomputable def Hs.Hn (h:Hs) (s:Cs) (m:Nat):Nat->Int:=gath (h.rows (h.mem m) s.came) λi=>col Row.water (h.rows (h.mem m) s.came) i - h.Ii s m i
noncomputable def Hs.reach (h:Hs) (s:Cs) (m:Nat):Cs:=
 let s1:=h.Fo {s with page:=pgM (h.mem m) (h.Ii s m) (h.Hn s m) s.page (h.mem m).length} m (h.Hn s m ((h.mem m).length - 1))
 {s1 with rea:=s1.rea++ [.tup [.fl (Bb (h.mem m)),.fl ((h.rows (h.mem m) s.came).map Row.enc)]]}
theorem Yc {n:Nat} (hb:∀m,bels m ds=true):freeze (csH G n H LV yt s) (.ok (.ref (csH G n H LV yt s).length) (csH G n H LV yt s++ [.lst ds]))=.ok (.fl ds) (csH G n H LV yt s):=Gy (hb _)
theorem Pu:(h.rows ms ca).length=ms.length:=by simp [Hs.rows]
theorem ZKL (g:GoodH h) (hm:m < h.n) (hl:h.last m=m) (hc:∀k,k < h.n->0<=s.came k) (hre:s.rea.length<=100):W2 [.ref G.length,.fl (Bb (h.mem m))] (csH G h.n h.enc LV yt s)=.ok .non (csH G h.n h.enc LV yt (h.reach s m)):=by
 have hR:=Rk g (m:=m) hc;have hlen:(h.rows (h.mem m) s.came).length<=40:=by have:=ZDH (h:=h) (m:=m);have:=g.len;rw [Pu];lia
 have hmem:m∈h.mem m:=mem_iff.mpr ⟨hm,hl⟩;have hpos:0 < (h.mem m).length:=List.length_pos_of_mem hmem;have nd:(h.mem m).Nodup:=(Rg (h:=h) (m:=m)).imp λhab=>Nat.ne_of_lt hab
 have cr:=ZI4 g (ms:=h.mem m) (λk hk=>⟨(mem_iff.mp hk).1,λd hd=>by have h1:=mem_iff.mp hk;have h2:=Kf g hd;exact mem_iff.mpr ⟨h2.2.1,by rw [<-Jx g hd];exact h1.2⟩⟩) (by rw [<-Pu (h:=h) (ca:=s.came)];exact hlen) (p:=G.length + 1) (ca:=s.came) (G:=csH G h.n h.enc LV yt s) Rt
 have cs:=ZNc hR hlen (csH G h.n h.enc LV yt s);have cp:=ZD2 hR hlen (t:=.fl (tab (h.rows (h.mem m) s.came).length (shr (h.rows (h.mem m) s.came)))) (T:=shr (h.rows (h.mem m) s.came)) (G:=csH G h.n h.enc LV yt s) rfl;rw [Pu] at cs cp;obtain ⟨x',y',z',hL⟩:=ZGg (G:=G) (LV:=LV) (yt:=yt) g (ms:=h.mem m) (λk hk=>(mem_iff.mp hk).1) nd (ZDr g hm hl) (T:=h.Ii s m) (L:=h.Hn s m) (s:=s) (r:=.fl ((h.rows (h.mem m) s.came).map Row.enc)) (t:=.fl (tab (h.mem m).length (h.Ii s m))) (h.mem m).length 0 none none none (by lia) hpos
 rw [ZK8,List.drop_zero] at hL;have hz:∀S G',Ei (Hw [.fl (Bb (h.mem m)),.fl (tab (h.mem m).length (h.Ii s m)),.fl (tab (h.mem m).length (h.Hn s m))]) (Bw 3 (Aq (gV 4) (Aq (gV 5) (Aq (gV 6) Cg)))) M5 (h.mem m).length 0 S G'=Bh (Bw 3 (Aq (gV 4) (Aq (gV 5) (Aq (gV 6) Cg)))) M5 (z3 (h.mem m) (h.Ii s m) (h.Hn s m)) S G':=λS G'=>Rr ZJC (by simp [z3])
 have eT:shr (h.rows (h.mem m) s.came)=h.Ii s m:=rfl;have eL:gath (h.rows (h.mem m) s.came) (λi=>col Row.water (h.rows (h.mem m) s.came) i - h.Ii s m i)=h.Hn s m:=rfl;rw [eT] at cs cp;rw [eL] at cp;have hre2:∀s':Cs,s'.rea=s.rea->s'.rea.length < 1000000:=λs' e=>by rw [e];lia
 have ers:∀s':Cs,∀k c,(h.Fo s' k c).rea=s'.rea:=λs' k c=>by
  unfold Hs.Fo;cases h.dn k with
  | none=>rfl
  | some d=>simp only [Cs.send];split <;> rfl
 have el1:=hre2 _ (ers {s with page:=pgM (h.mem m) (h.Ii s m) (h.Hn s m) s.page (h.mem m).length} m (h.Hn s m ((h.mem m).length - 1)));simp only [Hs.reach];generalize h.Fo {s with page:=pgM (h.mem m) (h.Ii s m) (h.Hn s m) s.page (h.mem m).length} m (h.Hn s m ((h.mem m).length - 1))=s1 at hL el1;have hS:{s with page:=s.page}=s:=rfl;have ht:∀G',tidy G' (.ok (.tup [.fl (Bb (h.mem m)),.fl ((h.rows (h.mem m) s.came).map Row.enc)]) G')=.ok (.tup [.fl (Bb (h.mem m)),.fl ((h.rows (h.mem m) s.came).map Row.enc)]) G':=λG'=>Bx (by simp)
 unfold W2 ZFC;rw [Br];simp [Kw,Vf,cr,Yc,cs,cp,J7,Lf,lenOf,hz,hL,Bq,ht,ZL6,csHe,el1,csSe,Mg]
end
noncomputable def Cs.NN (n:Nat) (s:Cs):Prop:=(∀k,k < n->0<=s.came k)/\∀k j,k < n->j < 5->0<=s.coming k j
theorem Cs.NN.send {n:Nat} (h:s.NN n) (hc:0<=c):(s.send to dl c).NN n:=by
 unfold Cs.send;split
 ·refine ⟨λk hk=> ?_,h.2⟩;simp only [fset];split
  ·rename_i e;subst e;have:=h.1 k hk;lia
  ·exact h.1 k hk
 ·refine ⟨h.1,λk j hk hj=> ?_⟩;simp only [upd2];split
  ·rename_i e;subst e;simp only [fset];split
   ·rename_i e2;subst e2;have:=h.2 k _ hk hj;lia
   ·exact h.2 k j hk hj
  ·exact h.2 k j hk hj
theorem Cs.NN.down {n:Nat} (h:s.NN n) {hs:Hs} (hc:0<=c):(hs.Fo s k c).NN n:=by
 unfold Hs.Fo;cases hs.dn k with
 | none=>exact h
 | some d=>exact h.send hc
theorem ZHa {s:Stp}:0<=cub w s:=by unfold cub;lia
theorem ZBi {w:Int}:∀{st:List Stp},0<=rv w st
 | []=>Int.le_refl _
 | s::r=>by
  have h1:=ZBi (w:=w) (st:=r);have h2:=ZHa (w:=w) (s:=s);unfold rv
  split <;> lia
theorem ZCJ {w:Int}:∀{st:List Stp},0<=pm w st
 | []=>Int.le_refl _
 | s::r=>by
  have h1:=ZCJ (w:=w) (st:=r);have h2:=ZHa (w:=w) (s:=s);unfold pm
  split <;> lia
theorem Cs.NN.page {n:Nat} (h:s.NN n) :({s with page:=pg}:Cs).NN n:=h
theorem V4:(s.send to dl c).rea=s.rea/\(s.send to dl c).page=s.page:=by
 unfold Cs.send
 split <;> exact ⟨rfl,rfl⟩
theorem Lr:(h.Fo s k c).rea=s.rea/\(h.Fo s k c).page=s.page:=by
 unfold Hs.Fo;cases h.dn k with
 | none=>exact ⟨rfl,rfl⟩
 | some d=>exact V4
section
variable {h:Hs} {yt:Int} {lv:Nat->Int} {s:Cs}
theorem ZLP (hs:s.NN h.n):(h.basin yt lv s k).NN h.n:=by
 unfold Hs.basin;cases (h.pl k).kd with
 | basin brim rule pump=>
  simp only;have a1:=ZBi (w:=lv k + s.came k) (st:=held yt rule []);have a2:=ZCJ (w:=lv k + s.came k) (st:=held yt rule []);cases pump with
  | none=>exact hs.page.down (by lia)
  | some q=>
   obtain ⟨to,dl,mo⟩:=q;exact Cs.NN.send (hs.page.down (by lia)) a2
 | town _ _=>exact hs
 | mill _=>exact hs
theorem ZIh:(h.basin yt lv s k).rea=s.rea:=by
 unfold Hs.basin;cases (h.pl k).kd with
 | basin brim rule pump=>
  simp only;cases pump with
  | none=>rw [Lr.1]
  | some q=>obtain ⟨to,dl,mo⟩:=q;simp only;rw [V4.1,Lr.1]
 | town _ _=>rfl
 | mill _=>rfl
theorem Ye (hB:(h.pl k).kd.isB=true):((h.basin yt lv s k).page k).length=6/\∀i,i≠k->(h.basin yt lv s k).page i=s.page i:=by
 unfold Hs.basin;cases e:(h.pl k).kd with
 | basin brim rule pump=>
  simp only;cases pump with
  | none=>
   simp only;rw [Lr.2];exact ⟨by simp,λi hi=>by simp [hi]⟩
  | some q=>
   obtain ⟨to,dl,mo⟩:=q;simp only;rw [V4.2,Lr.2];exact ⟨by simp,λi hi=>by simp [hi]⟩
 | town _ _=>rw [e] at hB;cases hB
 | mill _=>rw [e] at hB;cases hB
theorem ZIm (g:GoodH h) (hs:s.NN h.n) (hi:i < (h.mem m).length):0<=h.Hn s m i:=by have hR:=Rk g (m:=m) hs.1;have hsi:=ZCk hR;have:=hsi.p0 i (by rw [Pu];exact hi);rw [hsi.pg] at this;exact this
theorem ZJT (g:GoodH h) (hm:m < h.n) (hl:h.last m=m) (hs:s.NN h.n):(h.reach s m).NN h.n:=by have hpos:0 < (h.mem m).length:=List.length_pos_of_mem (mem_iff.mpr ⟨hm,hl⟩);unfold Hs.reach;exact Cs.NN.down (s:={s with page:=pgM (h.mem m) (h.Ii s m) (h.Hn s m) s.page (h.mem m).length}) hs.page (ZIm g hs (by lia))
theorem ZMd:(h.reach s m).rea.length=s.rea.length + 1:=by unfold Hs.reach;simp only [List.length_append,List.length_singleton];rw [Lr.1]
theorem Z1:(h.reach s m).page k=if k∈h.mem m then rrow (h.Ii s m) (h.Hn s m) ((h.mem m).idxOf k) else s.page k:=by unfold Hs.reach;simp only;rw [Lr.2];unfold pgM;rw [List.take_of_length_le (Nat.le_refl _)]
noncomputable def Hs.step (h:Hs) (yt:Int) (lv:Nat->Int) (s:Cs) (k:Nat):Cs:=if (h.pl k).kd.isB=true then h.basin yt lv s k else if h.last k=k then h.reach s k else s
noncomputable def Hs.goF (h:Hs) (yt:Int) (lv:Nat->Int):Nat->Nat->Cs->Cs
 | 0,_,s=>s
 | m + 1,k,s=>h.goF yt lv m (k + 1) (h.step yt lv s k)
theorem ZFt (g:GoodH h) (hk:k < h.n) (hs:s.NN h.n):(h.step yt lv s k).NN h.n:=by
 unfold Hs.step;split
 ·exact ZLP hs
 ·split
  ·rename_i e;exact ZJT g hk e hs
  ·exact hs
theorem ZIA:(h.step yt lv s k).rea.length<=s.rea.length + 1:=by
 unfold Hs.step;split
 ·rw [ZIh];lia
 ·split
  ·rw [ZMd];lia
  ·lia
end
section
variable {G:DH} {h:Hs} {yt:Int} {lv:Nat->Int}
theorem Vi {β:Type} {f f':α->Option β}:∀{l:List α},(∀x∈l,f x=f' x)->l.filterMap f=l.filterMap f'
 | [],_=>rfl
 | x::l,hl=>by rw [List.filterMap_cons,List.filterMap_cons,hl x List.mem_cons_self,Vi λy hy=>hl y (List.mem_cons_of_mem _ hy)]
theorem ZLd (hS:Bf 2 [2] S= [none,none,some (.int k)]) (G:DH):Ec (Er 0 (.fl (tab h.n λi=>(h.last i:Int)))) (Bw 2 (Aq (gV 0) (Aq (gV 1) Cg))) R9 Wb (Bf 2 [2] S) h.n 0 G=.ok (Bb (h.mem k)) G:=by
 have he:Ef (tab h.n λi=>(h.last i:Int))=(List.range h.n).map λ(i:Nat)=>D.tup [.int (i:Int),.int (h.last i:Int)]:=by refine List.ext_getElem (by simp [Ef]) λi h1 h2=>by simp [Ef,tab]
 rw [Vs (F:=λd=>match d with | .tup [.int i,.int e]=>if e=(k:Int) then some (.int i) else none | _=>none) (λj=>W9 j G) (λx hx=> ?_) (by rw [Ke];simp)]
 ·congr 1
  rw [he,List.filterMap_map];unfold Hs.mem Bb;rw [<-List.filterMap_eq_filter,List.map_filterMap];refine Vi λi _=> ?_
  by_cases e:h.last i=k
  ·subst e;simp [Option.guard]
  ·have e2:¬((h.last i:Int)=(k:Int)):=by lia
   simp [Option.guard,e,e2]
 ·rw [he] at hx;obtain ⟨i,_,rfl⟩:=List.mem_map.mp hx;refine ⟨[some (.int i),some (.int (h.last i:Int)),some (.int k)],by rw [hS];simp,?_⟩;by_cases e:h.last i=k
  ·refine .inr ⟨by unfold R9;simp [e],.int i,by unfold Wb;simp,by simp [e]⟩
  ·have e2:¬((h.last i:Int)=(k:Int)):=by lia
   exact .inl ⟨by unfold R9;simp [e2],by simp [e2]⟩
theorem ZFP (g:GoodH h):∀(m k:Nat) (s:Cs) (x y:Option D),k + m=h.n->s.NN h.n->s.rea.length<=k->∃x' y',
  Bh (Bw 2 (Aq (gV 2) (Aq (gV 3) Cg))) Oe ((Ef (tab h.n λi=>(h.last i:Int))).drop k) [some (.ref G.length),some (.fl (tab h.n λi=>(h.last i:Int))),x,y] (csH G h.n h.enc (.tup (tab h.n lv)) yt s)=
   .nx [some (.ref G.length),some (.fl (tab h.n λi=>(h.last i:Int))),x',y'] (csH G h.n h.enc (.tup (tab h.n lv)) yt (h.goF yt lv m k s))
 | 0,k,s,x,y,e,_,_=>⟨x,y,by rw [List.drop_of_length_le (by rw [Ke];simp;lia),Ed];rfl⟩
 | m + 1,k,s,x,y,e,hs,hre=>by
  have hk:k < h.n:=by lia
  have hn:=g.len;have hre2:=ZIA (h:=h) (yt:=yt) (lv:=lv) (s:=s) (k:=k);obtain ⟨x',y',ih⟩:=ZFP g m (k + 1) (h.step yt lv s k) (some (.int k)) (some (.int (h.last k:Int))) (by lia) (ZFt g hk hs) (by lia);refine ⟨x',y',?_⟩;have e0:(Ef (tab h.n λi=>(h.last i:Int))).drop k=.tup [.int k,.int (h.last k:Int)]::(Ef (tab h.n λi=>(h.last i:Int))).drop (k + 1):=by rw [List.drop_eq_getElem_cons (by rw [Ke];simpa using hk)];simp [Ef,tab]
  have hml:(h.mem k).length<=1000000:=by have:=ZDH (h:=h) (m:=k);lia
  have hb:Oe [some (.ref G.length),some (.fl (tab h.n λi=>(h.last i:Int))),some (.int k),some (.int (h.last k:Int))] (csH G h.n h.enc (.tup (tab h.n lv)) yt s)=
    .nx [some (.ref G.length),some (.fl (tab h.n λi=>(h.last i:Int))),some (.int k),some (.int (h.last k:Int))] (csH G h.n h.enc (.tup (tab h.n lv)) yt (h.step yt lv s k)):=by
   unfold Oe Hs.step;by_cases hB:(h.pl k).kd.isB=true
   ·simp [Kw,Dm,Hs.Ey hk,Iu,hB,Km ZKF,ZOS g hk hB]
   ·by_cases hl:h.last k=k
    ·have hc:Ec (Er 0 (.fl (tab h.n λi=>(h.last i:Int)))) (Bw 2 (Aq (gV 0) (Aq (gV 1) Cg))) R9 Wb (Bf 2 [2] [some (.ref G.length),some (.fl (tab h.n λi=>(h.last i:Int))),some (.int k),some (.int (k:Int))]) h.n 0 (csH G h.n h.enc (.tup (tab h.n lv)) yt s)=.ok (Bb (h.mem k)) (csH G h.n h.enc (.tup (tab h.n lv)) yt s):=ZLd rfl _;simp [Kw,Dm,Hs.Ey hk,Iu,hB,hl,Km ZKO,Iz,Lf,lenOf,hc,Ar,hml,Yc,ZKL g hk hl hs.1 (by lia)]
    ·have hl':¬((h.last k:Int)=(k:Int)):=by lia
     simp [Kw,Dm,Hs.Ey hk,Iu,hB,hl,hl']
  rw [e0,Dk];simp only [T3,Tr,Sy,Ds,R.Kv,R.Di,List.set,hb,Dv,List.length_cons,List.length_nil,Nat.reduceAdd,if_true];exact ih
theorem ZPa (g:GoodH h) (hs:s.NN h.n) (hre:s.rea= []):Uz [.ref G.length] (csH G h.n h.enc (.tup (tab h.n lv)) yt s)=.ok .non (csH G h.n h.enc (.tup (tab h.n lv)) yt (h.goF yt lv h.n 0 s)):=by
 obtain ⟨x',y',hL⟩:=ZFP (G:=G) (yt:=yt) (lv:=lv) g h.n 0 s none none (by lia) hs (by rw [hre];simp);rw [List.drop_zero] at hL;unfold Uz ZDP;rw [Br];have hz:∀S G',Ei (Er 0 (.fl (tab h.n λi=>(h.last i:Int)))) (Bw 2 (Aq (gV 2) (Aq (gV 3) Cg))) Oe h.n 0 S G'=Bh (Bw 2 (Aq (gV 2) (Aq (gV 3) Cg))) Oe (Ef (tab h.n λi=>(h.last i:Int))) S G':=λS G'=>Rr W9 (by rw [Ke];simp)
 simp [Kw,ZI0 g,Yc,Iz,Lf,lenOf,hz,hL,Mg]
end
noncomputable def Ci (n:Nat) (co:Nat->Nat->Int):List D:=(List.range n).map λk=>D.tup (tab 5 (co k))
noncomputable def stD (n:Nat) (lv:Nat->Int) (co:Nat->Nat->Int):D:=.tup [.tup (tab n lv),.tup (Ci n co)]
@[simp] theorem ZQG {n:Nat} :bels m (Ci n co)=true:=G7 λk _=>by simp [Ml]
@[simp] theorem ZJB {n:Nat} :bels m (Cu n pg)=true:=G7 λk _=>ZLC
@[simp] theorem ZNJ {n:Nat} :(Ci n co).length=n:=by simp [Ci]
noncomputable def Hu (co:Nat->Nat->Int):Nat->Nat->Int:=λk j=>if j < 4 then co k (j + 1) else 0
noncomputable def cs0 (co:Nat->Nat->Int) (fl:Nat->Int):Cs:=⟨λk=>fl k + co k 0,Hu co,λ_=> [],[]⟩
theorem tab5:tab 5 F= [.int (F 0),.int (F 1),.int (F 2),.int (F 3),.int (F 4)]:=rfl
theorem N8 {c f:Str} {fs:List (Str×D)} {d:D} (hl:fs.length < 1000):Qc c f (.ref G.length) d S (G++ .ins c fs::L)=.nx S (G++ .ins c (Hm f d fs)::L):=by
 rw [ZKY (fs:=fs) (by rw [Dq];rfl) hl,Fb]
 rfl
theorem ZL1 {n:Nat} (G:DH):Ec (Hw [.tup (tab n fl),.tup (Ci n co)]) (Bw 2 (Aq (gV 0) (Aq (gV 1) Cg))) Ce W3 (Bf 2 [] S) n 0 G=.ok (tab n λk=>fl k + co k 0) G:=by
 have he:Ow (tab n fl) (Ci n co)=(List.range n).map λ(i:Nat)=>D.tup [.int (fl i),.tup (tab 5 (co i))]:=by refine List.ext_getElem (by simp [Ow]) λi h1 h2=>by simp [Ow,tab,Ci]
 rw [Vs (F:=λd=>match d with | .tup [.int c,.tup (.int a::_)]=>some (.int (c + a)) | _=>none) (λj=>ZHH (Wz (xs:=tab n fl)) (Wz (xs:=Ci n co)) j) (λx hx=> ?_) (by rw [he];simp)]
 ·congr 1
  rw [he,List.filterMap_map];show (List.range n).filterMap (λi=>some (D.int (fl i + co i 0)))=_;rw [List.filterMap_eq_map']
  rfl
 ·rw [he] at hx;obtain ⟨i,_,rfl⟩:=List.mem_map.mp hx;refine ⟨[some (.int (fl i)),some (.tup (tab 5 (co i)))],by simp [Bf],.inr ⟨rfl,.int (fl i + co i 0),?_,by simp [tab5]⟩⟩;unfold W3;simp [tab5]
theorem ZIg (G:DH):Tc [some (.tup (tab 5 (co k)))] G=.ok (.ref G.length) (G++ [.lst (tab 5 (Hu co k))]):=by
 have hcut:cutD (tab 5 (co k)) (some 1) none= [.int (co k 1),.int (co k 2),.int (co k 3),.int (co k 4)]:=rfl;have h1:Wl [.tup [.int (co k 1),.int (co k 2),.int (co k 3),.int (co k 4)]] G=.ok (.ref G.length) (G++ [.lst [.int (co k 1),.int (co k 2),.int (co k 3),.int (co k 4)]]):=rfl;have h2:Ay (.fl [.int (co k 1),.int (co k 2),.int (co k 3),.int (co k 4)]) (.fl [.int 0]) G=.ok (.ref G.length) (G++ [.lst (tab 5 (Hu co k))]):=rfl
 have hf:∀ds:List D,bels G.length ds=true->freeze G (.ok (.ref G.length) (G++ [.lst ds]))=.ok (.fl ds) G:=λds hb=>Gy hb
 unfold Tc;simp [Pr,ZCd,hcut,Pa,h1,hf,Ar,h2,Fv]
theorem ZC4 {n:Nat} {co:Nat->Nat->Int}:∀(m k:Nat) (G:DH),k + m=n->Eb (gV 0) Ce Tc [none] ((Ci n co).drop k) G=.ok ((List.range m).map λj=>D.ref (G.length + j)) (G++(List.range m).map λj=>DO.lst (tab 5 (Hu co (k + j))))
 | 0,k,G,e=>by rw [List.drop_of_length_le (by simp;lia)];simp [Eb]
 | m + 1,k,G,e=>by
  have e0:(Ci n co).drop k=.tup (tab 5 (co k))::(Ci n co).drop (k + 1):=by rw [List.drop_eq_getElem_cons (by simp;lia)];simp [Ci]
  have ih:=ZC4 (n:=n) (co:=co) m (k + 1) (G++ [.lst (tab 5 (Hu co k))]) (by lia);rw [e0,Ym];simp only [Ds,R.Kv,List.set,ZJ7,if_true,ZIg,ih]
  congr 1
  ·rw [List.range_succ_eq_map,List.map_cons,List.map_map]
   congr 1
   refine List.map_congr_left λj _=> ?_
   simp only [Function.comp,List.length_append,List.length_singleton]
   congr 1
   lia
  ·rw [List.range_succ_eq_map,List.map_cons,List.map_map,List.append_assoc]
   congr 1
   show _::_=_::_
   congr 1
   refine List.map_congr_left λj _=> ?_
   simp only [Function.comp]
   congr 3
   lia
theorem ZPl (g:GoodH h) :
  R7 [.ref G.length,h.enc,stD h.n lv co,.int at_,.tup (tab h.n fl)] (G++ [.ins "Course" []])=.ok .non (csH G h.n h.enc (.tup (tab h.n lv)) (at_ % h.yr) (cs0 co fl)):=by
 have hn:=g.len;have hyr:=g.yr;have hnl:h.n<=1000000:=by lia
 have p1:∀a:D,Hm "house" a (cfl [])=cfl [a]:=λ_=>rfl
 have p2:∀a b:D,Hm "levels" b (cfl [a])=cfl [a,b]:=λ_ _=>rfl
 have p3:∀a b c:D,Hm "year_turn" c (cfl [a,b])=cfl [a,b,c]:=λ_ _ _=>rfl
 have p4:∀a b c d:D,Hm "came" d (cfl [a,b,c])=cfl [a,b,c,d]:=λ_ _ _ _=>rfl
 have p5:∀a b c d e:D,Hm "coming" e (cfl [a,b,c,d])=cfl [a,b,c,d,e]:=λ_ _ _ _ _=>rfl
 have p6:∀a b c d e f:D,Hm "page" f (cfl [a,b,c,d,e])=cfl [a,b,c,d,e,f]:=λ_ _ _ _ _ _=>rfl
 have p7:∀a b c d e f q:D,Hm "reaches" q (cfl [a,b,c,d,e,f])=cfl [a,b,c,d,e,f,q]:=λ_ _ _ _ _ _ _=>rfl
 have hl:∀ds,(cfl ds).length < 1000:=λds=>by unfold cfl;rw [List.length_zip];have:(["house","levels","year_turn","came","coming","page","reaches"]:List Str).length=7:=rfl;lia
 have hz:∀G',J7 2 [.tup (tab h.n fl),.tup (Ci h.n co)] G'=.ok (.fn h.n (Hw [.tup (tab h.n fl),.tup (Ci h.n co)])) G':=λG'=>by rw [ZFT Wz Wz];simp
 have hcc:=λG'=>ZC4 (n:=h.n) (co:=co) h.n 0 G' (by lia)
 simp only [List.drop_zero,Nat.zero_add] at hcc;have hcs:∀S:DSt,Bf 1 [] S= [none]:=λ_=>rfl
 have epg:List.replicate h.n D.non=Cu h.n λ_=> []:=by unfold Cu;refine List.ext_getElem (by simp) λi h1 h2=>by simp [Jd]
 let S:DSt:= [some (.ref G.length),some h.enc,some (stD h.n lv co),some (.int at_),some (.tup (tab h.n fl)),some (.tup (tab h.n lv)),some (.tup (Ci h.n co))];have hS:S= [some (.ref G.length),some h.enc,some (stD h.n lv co),some (.int at_),some (.tup (tab h.n fl)),some (.tup (tab h.n lv)),some (.tup (Ci h.n co))]:=rfl;let R5:DH:=(List.range h.n).map λk=>DO.lst (tab 5 (Hu co k))
 have hR5:R5.length=h.n:=by simp [R5]
 have q1:Gw "Course" (dV 0) (dV 1) "house" S (G++ .ins "Course" (cfl []):: [])=.nx S (G++ .ins "Course" (cfl [h.enc]):: []):=by rw [Mv,hS];simp only [ZBv,List.getElem?_cons_zero,List.getElem?_cons_succ,R.Di,N8 (hl _),p1]
 have q2:Gw "Course" (dV 0) (dV 5) "levels" S (G++ .ins "Course" (cfl [h.enc]):: [])=.nx S (G++ .ins "Course" (cfl [h.enc,.tup (tab h.n lv)]):: []):=by rw [Mv,hS];simp only [ZBv,List.getElem?_cons_zero,List.getElem?_cons_succ,R.Di,N8 (hl _),p2]
 have q3:Gw "Course" (dV 0) (dOp Bo (dV 3) (dOp Aj (dV 1) (dC (.int 0)))) "year_turn" S (G++ .ins "Course" (cfl [h.enc,.tup (tab h.n lv)]):: [])=.nx S (G++ .ins "Course" (cfl [h.enc,.tup (tab h.n lv),.int (at_ % h.yr)]):: []):=by rw [Mv,hS];simp [ZK1,hyr,N8 (hl _),p3]
 have q4:Gw "Course" (dV 0) (Eh (Dl (J7 2) (Ab (dV 4) (Ab (dV 6) Ae))) 2 [] (Bw 2 (Aq (gV 0) (Aq (gV 1) Cg))) Ce W3) "came" S (G++ .ins "Course" (cfl [h.enc,.tup (tab h.n lv),.int (at_ % h.yr)]):: [])=
   .nx S (G++ .ins "Course" (cfl [h.enc,.tup (tab h.n lv),.int (at_ % h.yr),.ref (G.length + 1)]):: .lst (tab h.n λk=>fl k + co k 0):: []):=by
  rw [Mv,hS];simp [hz,ZL1,Ar,hnl,N8 (hl _),p4]
 have q5:Gw "Course" (dV 0) (Eh (Ep (dV 6)) 1 [] (gV 0) Ce Tc) "coming" S (G++ .ins "Course" (cfl [h.enc,.tup (tab h.n lv),.int (at_ % h.yr),.ref (G.length + 1)]):: .lst (tab h.n λk=>fl k + co k 0):: [])=
   .nx S (G++ .ins "Course" (cfl [h.enc,.tup (tab h.n lv),.int (at_ % h.yr),.ref (G.length + 1),.ref (G.length + (2 + h.n))]):: .lst (tab h.n λk=>fl k + co k 0)::(R5++ [.lst (Eg G.length h.n)])):=by
  have hi:I8 (.tup (Ci h.n co)) (G++ .ins "Course" (cfl [h.enc,.tup (tab h.n lv),.int (at_ % h.yr),.ref (G.length + 1)]):: .lst (tab h.n λk=>fl k + co k 0):: [])=.ok (.pure (Ci h.n co)) (G++ .ins "Course" (cfl [h.enc,.tup (tab h.n lv),.int (at_ % h.yr),.ref (G.length + 1)]):: .lst (tab h.n λk=>fl k + co k 0):: []):=rfl;have er:∀L:DH,L.length=2->(List.range h.n).map (λj=>D.ref ((G++L).length + j))=Eg G.length h.n:=λL e=>by
   unfold Eg;refine List.map_congr_left λj _=> ?_
   rw [List.length_append,e,Nat.add_assoc]
  have hc2:=hcc (G++ .ins "Course" (cfl [h.enc,.tup (tab h.n lv),.int (at_ % h.yr),.ref (G.length + 1)]):: .lst (tab h.n λk=>fl k + co k 0):: []);rw [er _ rfl] at hc2;have hml:∀G',Ar (Eg G.length h.n) G'=.ok (.ref G'.length) (G'++ [.lst (Eg G.length h.n)]):=λG'=>by simp [Ar,Eg,hnl]
  rw [Mv,hS];simp only [ZN8,ZKi,ZBv,List.getElem?_cons_zero,List.getElem?_cons_succ,R.Kv,hi,hcs,hc2,hml,R.Di];have e2:(G++DO.ins "Course" (cfl [h.enc,.tup (tab h.n lv),.int (at_ % h.yr),.ref (G.length + 1)]):: .lst (tab h.n λk=>fl k + co k 0):: []++(List.range h.n).map λj=>DO.lst (tab 5 (Hu co j))).length=G.length + (2 + h.n):=by simp;lia
  rw [e2];simp only [List.append_assoc,List.cons_append,List.nil_append];rw [N8 (hl _),p5]
 have q6:Gw "Course" (dV 0) (Ff (dOp Kg (dFn Ar (Ab (dC .non) Ae)) (dFn Dc (Ab (dV 5) Ae)))) "page" S (G++ .ins "Course" (cfl [h.enc,.tup (tab h.n lv),.int (at_ % h.yr),.ref (G.length + 1),.ref (G.length + (2 + h.n))]):: .lst (tab h.n λk=>fl k + co k 0)::(R5++ [.lst (Eg G.length h.n)]))=
   .nx S (G++ .ins "Course" (cfl [h.enc,.tup (tab h.n lv),.int (at_ % h.yr),.ref (G.length + 1),.ref (G.length + (2 + h.n)),.ref (G.length + (3 + h.n))]):: .lst (tab h.n λk=>fl k + co k 0)::(R5++ [.lst (Eg G.length h.n),.lst (Cu h.n λ_=> [])])):=by
  rw [Mv,hS];generalize hQ:G++DO.ins "Course" (cfl [h.enc,.tup (tab h.n lv),.int (at_ % h.yr),.ref (G.length + 1),.ref (G.length + (2 + h.n))]):: .lst (tab h.n λk=>fl k + co k 0)::(R5++ [.lst (Eg G.length h.n)])=Q;have eQ:Q.length=G.length + (3 + h.n):=by rw [<-hQ];simp [hR5];lia
  have hrep:Kg (.ref Q.length) (.int (h.n:Int)) (Q++ [.lst [.non]])=.ok (.ref (Q.length + 1)) (Q++ [.lst [.non],.lst (Cu h.n λ_=> [])]):=by rw [ZFo (d:=.non) (by rw [Dq];rfl) (by lia),epg];simp
  have ht:tidy Q (.ok (.ref (Q.length + 1)) (Q++ [.lst [.non],.lst (Cu h.n λ_=> [])]))=.ok (.ref Q.length) (Q++ [.lst (Cu h.n λ_=> [])]):=Zz _ (k:=1) rfl ZJB;have hst:Qc "Course" "page" (.ref G.length) (.ref Q.length) S (Q++ [.lst (Cu h.n λ_=> [])])=.nx S (G++ .ins "Course" (cfl [h.enc,.tup (tab h.n lv),.int (at_ % h.yr),.ref (G.length + 1),.ref (G.length + (2 + h.n)),.ref (G.length + (3 + h.n))]):: .lst (tab h.n λk=>fl k + co k 0)::(R5++ [.lst (Eg G.length h.n),.lst (Cu h.n λ_=> [])])):=by rw [eQ,<-hQ];simp only [List.append_assoc,List.cons_append,List.nil_append];rw [N8 (hl _),p6]
  rw [hS] at hst;simp [Ar,hrep,ht,hst]
 have q7:Gw "Course" (dV 0) (Ff (dFn Ar Ae)) "reaches" S (G++ .ins "Course" (cfl [h.enc,.tup (tab h.n lv),.int (at_ % h.yr),.ref (G.length + 1),.ref (G.length + (2 + h.n)),.ref (G.length + (3 + h.n))]):: .lst (tab h.n λk=>fl k + co k 0)::(R5++ [.lst (Eg G.length h.n),.lst (Cu h.n λ_=> [])]))=
   .nx S (G++ .ins "Course" (cfl [h.enc,.tup (tab h.n lv),.int (at_ % h.yr),.ref (G.length + 1),.ref (G.length + (2 + h.n)),.ref (G.length + (3 + h.n)),.ref (G.length + (4 + h.n))]):: .lst (tab h.n λk=>fl k + co k 0)::(R5++ [.lst (Eg G.length h.n),.lst (Cu h.n λ_=> []),.lst []])):=by
  rw [Mv,hS];generalize hQ:G++DO.ins "Course" (cfl [h.enc,.tup (tab h.n lv),.int (at_ % h.yr),.ref (G.length + 1),.ref (G.length + (2 + h.n)),.ref (G.length + (3 + h.n))]):: .lst (tab h.n λk=>fl k + co k 0)::(R5++ [.lst (Eg G.length h.n),.lst (Cu h.n λ_=> [])])=Q;have eQ:Q.length=G.length + (4 + h.n):=by rw [<-hQ];simp [hR5];lia
  have ht:tidy Q (.ok (.ref Q.length) (Q++ [.lst []]))=.ok (.ref Q.length) (Q++ [.lst []]):=Fv rfl;have hst:Qc "Course" "reaches" (.ref G.length) (.ref Q.length) S (Q++ [.lst []])=.nx S (G++ .ins "Course" (cfl [h.enc,.tup (tab h.n lv),.int (at_ % h.yr),.ref (G.length + 1),.ref (G.length + (2 + h.n)),.ref (G.length + (3 + h.n)),.ref (G.length + (4 + h.n))]):: .lst (tab h.n λk=>fl k + co k 0)::(R5++ [.lst (Eg G.length h.n),.lst (Cu h.n λ_=> []),.lst []])):=by rw [eQ,<-hQ];simp only [List.append_assoc,List.cons_append,List.nil_append];rw [N8 (hl _),p7]
  rw [hS] at hst;simp [Ar,ht,hst]
 have htd:tidy (G++ [.ins "Course" []]) (.ok .non (csH G h.n h.enc (.tup (tab h.n lv)) (at_ % h.yr) (cs0 co fl)))=.ok .non (csH G h.n h.enc (.tup (tab h.n lv)) (at_ % h.yr) (cs0 co fl)):=ZPO λz=>by
  have h1:=congrArg (λl:DH=>l[G.length]?) z;simp only [List.length_append,List.length_singleton] at h1;rw [List.getElem?_take_of_lt (by lia),Ka] at h1;have h2:(G++ [DO.ins "Course" []])[G.length]? =some (.ins "Course" []):=by rw [Dq];rfl
  rw [h2] at h1;simp [cflds,cfl] at h1
 have hfin:G++DO.ins "Course" (cfl [h.enc,.tup (tab h.n lv),.int (at_ % h.yr),.ref (G.length + 1),.ref (G.length + (2 + h.n)),.ref (G.length + (3 + h.n)),.ref (G.length + (4 + h.n))]):: .lst (tab h.n λk=>fl k + co k 0)::(R5++ [.lst (Eg G.length h.n),.lst (Cu h.n λ_=> []),.lst []])=csH G h.n h.enc (.tup (tab h.n lv)) (at_ % h.yr) (cs0 co fl):=rfl;have q0:sAs (dV 2) (Bw 2 (Aq (gV 5) (Aq (gV 6) Cg))) [some (.ref G.length),some h.enc,some (stD h.n lv co),some (.int at_),some (.tup (tab h.n fl)),none,none] (G++ [.ins "Course" []])=.nx S (G++ .ins "Course" (cfl []):: []):=by
  simp [stD,hS]
  rfl
 unfold R7 ZHp;rw [Br];have h5: [D.ref G.length,h.enc,stD h.n lv co,.int at_,.tup (tab h.n fl)].length=5:=rfl;rw [if_pos h5];have hd:([D.ref G.length,h.enc,stD h.n lv co,.int at_,.tup (tab h.n fl)].map some++List.replicate 2 none)= [some (.ref G.length),some h.enc,some (stD h.n lv co),some (.int at_),some (.tup (tab h.n fl)),none,none]:=rfl;rw [hd];simp only [X4,q0,Ud,q1,q2,q3,q4,q5,q6,q7,hfin,ZIC]
 exact htd
section
variable {h:Hs} {yt:Int} {lv:Nat->Int}
theorem ZCL (g:GoodH h):∀(m k:Nat),h.n<=m + k->h.last k=k∨(h.pl (h.last k)).kd.isB=false
 | 0,k,e=>.inl (Ja g (Qx (by lia)))
 | m + 1,k,e=>by
  cases hd:h.dir k with
  | none=>exact .inl (Ja g hd)
  | some d=>
   have hl:=Kf g hd;rw [Jx g hd];rcases ZCL g m d (by lia) with z | z
   ·refine .inr ?_;rw [z];unfold Hs.dir at hd;cases h1:h.dn k with
    | none=>rw [h1] at hd;cases hd
    | some d'=>
     rw [h1] at hd;simp only at hd;split at hd
     ·cases hd
     ·rename_i hn;cases hd;cases e2:(h.pl d).kd.isB with
      | false=>rfl
      | true=>exact absurd (.inr (.inr e2)) hn
   ·exact .inr z
theorem ZCP (g:GoodH h):∀(m k:Nat),h.n<=m + k->h.last (h.last k)=h.last k
 | 0,k,e=>by have h1:=Ja g (h:=h) (k:=k) (Qx (by lia));rw [h1,h1]
 | m + 1,k,e=>by
  cases hd:h.dir k with
  | none=>rw [Ja g hd,Ja g hd]
  | some d=>
   have hl:=Kf g hd;rw [Jx g hd];exact ZCP g m d (by lia)
noncomputable def Hs.done (h:Hs) (j k:Nat):Prop:=if (h.pl k).kd.isB=true then k < j else h.last k < j
theorem ZH7 (g:GoodH h) (hk:k < h.n) (hf:∀i,i < h.n->h.done k i->(s.page i).length=6):∀i,i < h.n->h.done (k + 1) i->((h.step yt lv s k).page i).length=6:=λi hi hd=>by
 unfold Hs.step;split
 ·rename_i hB;by_cases e:i=k
  ·subst e;exact (Ye hB).1
  ·rw [(Ye hB).2 i e];refine hf i hi ?_;unfold Hs.done at hd ⊢;by_cases hiB:(h.pl i).kd.isB=true
   ·rw [if_pos hiB] at hd ⊢;lia
   ·rw [if_neg hiB] at hd ⊢;rcases Nat.lt_or_ge (h.last i) k with z | z
    ·exact z
    ·have e2:h.last i=k:=by lia
     rcases ZCL g h.n i (by lia) with z2 | z2
     ·rw [z2] at e2;exact absurd e2 e
     ·rw [e2,hB] at z2;cases z2
 ·rename_i hB;split
  ·rename_i hl;rw [Z1];split
   ·rfl
   ·rename_i hm;refine hf i hi ?_;unfold Hs.done at hd ⊢;by_cases hiB:(h.pl i).kd.isB=true
    ·rw [if_pos hiB] at hd ⊢;rcases Nat.lt_or_ge i k with z | z
     ·exact z
     ·have e2:i=k:=by lia
      rw [e2] at hiB;exact absurd hiB hB
    ·rw [if_neg hiB] at hd ⊢;rcases Nat.lt_or_ge (h.last i) k with z | z
     ·exact z
     ·exact absurd (mem_iff.mpr ⟨hi,by lia⟩) hm
  ·rename_i hl;refine hf i hi ?_;unfold Hs.done at hd ⊢;by_cases hiB:(h.pl i).kd.isB=true
   ·rw [if_pos hiB] at hd ⊢;rcases Nat.lt_or_ge i k with z | z
    ·exact z
    ·have e2:i=k:=by lia
     rw [e2] at hiB;exact absurd hiB hB
   ·rw [if_neg hiB] at hd ⊢;rcases Nat.lt_or_ge (h.last i) k with z | z
    ·exact z
    ·have e2:h.last i=k:=by lia
     have:=ZCP g h.n i (by lia);rw [e2] at this;exact absurd this hl
theorem ZE7 (g:GoodH h):∀(m k:Nat) (s:Cs),k + m=h.n->(∀i,i < h.n->h.done k i->(s.page i).length=6)->∀i,i < h.n->((h.goF yt lv m k s).page i).length=6
 | 0,k,s,e,hf,i,hi=>hf i hi (by
   unfold Hs.done;split
   ·lia
   ·have:=(Jc g i).2 hi;lia)
 | m + 1,k,s,e,hf,i,hi=>ZE7 g m (k + 1) _ (by lia) (ZH7 g (by lia) hf) i hi
theorem ZFF (g:GoodH h):∀(m k:Nat) (s:Cs),k + m=h.n->s.NN h.n->(h.goF yt lv m k s).NN h.n
 | 0,k,s,e,hs=>hs
 | m + 1,k,s,e,hs=>ZFF g m (k + 1) _ (by lia) (ZFt g (by lia) hs)
end
noncomputable def lies (pg:Nat->List Int):Nat->Int:=λk=>(pg k).getD 5 0
theorem row6 (h:l.length=6):∃a b c d e f,l= [a,b,c,d,e,f]:=by
 match l,h with
 | [a,b,c,d,e,f],_=>exact ⟨a,b,c,d,e,f,rfl⟩
section
variable {G:DH} {h:Hs} {LV:D} {yt:Int} {s:Cs}
theorem ZML (hf:∀k,k < h.n->(s.page k).length=6):Hl (G.length + (3 + h.n)) (gV 0) Ce Xu (Bf 1 [] S) h.n 0 (csH G h.n h.enc LV yt s)=.ok (tab h.n (lies s.page)) (csH G h.n h.enc LV yt s):=by
 have hx:=ZEb (i:=G.length + (3 + h.n)) (g:=gV 0) (c:=Ce) (te:=Xu) (S:=Bf 1 [] S) (G:=csH G h.n h.enc LV yt s) (F:=λd=>match d with | .tup [_,_,_,_,_,x]=>some x | _=>none) Mq (λx hx=>by obtain ⟨k,hk,rfl⟩:=List.mem_map.mp hx;obtain ⟨a,b,c,d,e,f,el⟩:=row6 (hf k (List.mem_range.mp hk));rw [el];refine ⟨[some (Jd [a,b,c,d,e,f])],by simp [Bf],.inr ⟨rfl,.int f,?_,rfl⟩⟩;unfold Xu;simp [Jd])
 rw [Vq] at hx;rw [hx]
 congr 1
 unfold Cu;rw [List.filterMap_map];unfold tab;rw [<-List.filterMap_eq_map'];refine Vi λk hk=> ?_
 obtain ⟨a,b,c,d,e,f,el⟩:=row6 (hf k (List.mem_range.mp hk));simp [Function.comp,el,Jd,lies]
theorem ZLq:Hl (G.length + (2 + h.n)) (gV 0) Ce Xk (Bf 1 [] S) h.n 0 (csH G h.n h.enc LV yt s)=.ok (Ci h.n s.coming) (csH G h.n h.enc LV yt s):=by
 have hlen:(Eg G.length h.n).length=h.n:=by simp [Eg]
 have hx:=ZEb (i:=G.length + (2 + h.n)) (g:=gV 0) (c:=Ce) (te:=Xk) (S:=Bf 1 [] S) (G:=csH G h.n h.enc LV yt s) (F:=λd=>match d with | .ref j=>some (.tup (tab 5 (s.coming (j - (G.length + 2))))) | _=>none) Y7 (λx hx=>by
  obtain ⟨k,hk,rfl⟩:=List.mem_map.mp hx;refine ⟨[some (.ref (G.length + (2 + k)))],by simp [Bf],.inr ⟨rfl,.tup (tab 5 (s.coming k)),?_,?_⟩⟩
  ·unfold Xk;simp [ZCG (List.mem_range.mp hk)]
  ·have e:G.length + (2 + k) - (G.length + 2)=k:=by lia
   simp only [e])
 rw [hlen] at hx;rw [hx]
 congr 1
 unfold Eg;rw [List.filterMap_map];unfold Ci;rw [<-List.filterMap_eq_map'];refine Vi λk hk=> ?_
 have e:G.length + (2 + k) - (G.length + 2)=k:=by lia
 simp only [Function.comp,e]
theorem ZK5 (g:GoodH h) (hf:∀k,k < h.n->(s.page k).length=6):Wt [.ref G.length] (csH G h.n h.enc LV yt s)=.ok (stD h.n (lies s.page) s.coming) (csH G h.n h.enc LV yt s):=by
 have hn:=g.len;have hnl:h.n<=1000000:=by lia
 have hl2:(Eg G.length h.n).length=h.n:=by simp [Eg]
 have hb:bel (csH G h.n h.enc LV yt s).length (stD h.n (lies s.page) s.coming)=true:=by simp [stD]
 unfold Wt ZDE;rw [Br];unfold stD at hb ⊢;have i1:I8 (.ref (G.length + (3 + h.n))) (csH G h.n h.enc LV yt s)=.ok (.mt (G.length + (3 + h.n))) (csH G h.n h.enc LV yt s):=by simp [I8,Mq]
 have i2:I8 (.ref (G.length + (2 + h.n))) (csH G h.n h.enc LV yt s)=.ok (.mt (G.length + (2 + h.n))) (csH G h.n h.enc LV yt s):=by simp [I8,Y7]
 simp [i1,i2,Qh,Mq,ZML hf,Ar,hnl,Yc,Bq,ZC5,Y7,hl2,ZLq,Bx]
noncomputable def Hs.cs (h:Hs) (lv:Nat->Int) (co:Nat->Nat->Int) (at_:Int) (fl:Nat->Int):Cs:=h.goF (at_ % h.yr) lv h.n 0 (cs0 co fl)
theorem ZDM {n:Nat} (hc:∀k j,k < n->j < 5->0<=co k j) (hf:∀k,k < n->0<=fl k):(cs0 co fl).NN n:=by
 refine ⟨λk hk=> ?_,λk j hk hj=> ?_⟩
 ·have:=hc k 0 hk (by lia);have:=hf k hk;show 0<=fl k + co k 0;lia
 ·show 0<=if j < 4 then co k (j + 1) else 0
  split
  ·exact hc k (j + 1) hk (by lia)
  ·exact Int.le_refl _
theorem ZMQ (g:GoodH h) :∀k,k < h.n->((h.cs lv co at_ fl).page k).length=6:=ZE7 g h.n 0 _ (by lia) λi hi hd=>by
 unfold Hs.done at hd
 split at hd <;> lia
theorem ZNA (g:GoodH h) (hc:∀k j,k < h.n->j < 5->0<=co k j) (hf:∀k,k < h.n->0<=fl k) (G:DH):
  Vx [h.enc,stD h.n lv co,.int at_,.tup (tab h.n fl)] G=.ok (.tup [.tup (Cu h.n (h.cs lv co at_ fl).page),stD h.n (lies (h.cs lv co at_ fl).page) (h.cs lv co at_ fl).coming]) G:=by
 have hgo:=ZPa (G:=G) (lv:=lv) (yt:=at_ % h.yr) g (ZDM (fl:=fl) hc hf) rfl;have hst:=ZK5 (G:=G) (LV:=.tup (tab h.n lv)) (yt:=at_ % h.yr) g (ZMQ g (lv:=lv) (fl:=fl) (co:=co) (at_:=at_));have hmk:ZAO R7 "Course" [h.enc,stD h.n lv co,.int at_,.tup (tab h.n fl)] G=.ok (.ref G.length) (csH G h.n h.enc (.tup (tab h.n lv)) (at_ % h.yr) (cs0 co fl)):=by
  unfold ZAO;rw [ZPl g]
  rfl
 have egs:h.goF (at_ % h.yr) lv h.n 0 (cs0 co fl)=h.cs lv co at_ fl:=rfl;rw [egs] at hgo;have hcH:∀s,csH G h.n h.enc (.tup (tab h.n lv)) (at_ % h.yr) s=G++csT G.length h.n h.enc (.tup (tab h.n lv)) (at_ % h.yr) s:=λ_=>rfl
 have hbl:bel G.length (.tup [.tup (Cu h.n (h.cs lv co at_ fl).page),stD h.n (lies (h.cs lv co at_ fl).page) (h.cs lv co at_ fl).coming])=true:=by simp [stD]
 unfold Vx ZD9;rw [Br];simp [hmk,Km ZIN,hgo,Qh,Mq,Km ZPd,hst,Bq];rw [hcH];exact Qu hbl
end
theorem ZJs (hf:∀k:Nat,k<=1000->∀G,Bg [.fl (ns.map D.int),.int k] G=.ok (.int (f k)) G):∃u:Int,(u=1∨u=1000000000000000000000000000000)/\∀G,Gs [.fl (ns.map D.int)] G=.ok (.int u) G:=by
 have h0:∀G,Bg [.fl (ns.map D.int),.int 0] G=.ok (.int (f 0)) G:=hf 0 (by lia);have fz:∀G:DH,freeze G (.ok (.ref G.length) (G++ [.lst [.int 1,.int 1,.int 1000000000000000000000000000000]]))=.ok (.fl [.int 1,.int 1,.int 1000000000000000000000000000000]) G:=λG=>Gy rfl
 rcases (by lia:f 0 / 840 % 3=0∨f 0 / 840 % 3=1∨f 0 / 840 % 3=2) with h | h | h
 ·refine ⟨1,.inl rfl,λG=> ?_⟩;unfold Gs Xa;rw [Br];simp [h0,h,Ar,fz,Bx]
 ·refine ⟨1,.inl rfl,λG=> ?_⟩;unfold Gs Xa;rw [Br];simp [h0,h,Ar,fz,Bx]
 ·refine ⟨1000000000000000000000000000000,.inr rfl,λG=> ?_⟩;unfold Gs Xa;rw [Br];simp [h0,h,Ar,fz,Bx]
noncomputable def amt (c u:Int):Int:=u * (c % 7) + c / 7 % u
theorem Uj (hu:0 < u):0<=amt c u:=by unfold amt;have h1:0<=u * (c % 7):=Int.mul_nonneg (by lia) (by lia);have h2:0<=c / 7 % u:=Int.emod_nonneg _ (by lia);lia
theorem O1 (hu:0 < u) (G:DH):Mz [.int c,.int u] G=.ok (.int (amt c u)) G:=by
 have m1:∀G,Bs (.int u) (.int (c % 7)) G=.ok (.int (u * (c % 7))) G:=λG=>Mi (by lia) (by lia)
 unfold Mz ZFR;rw [Br];simp [m1,hu,Bx,amt]
theorem ZKH (hf:∀k:Nat,k<=1000->∀G,Bg [.fl (ns.map D.int),.int k] G=.ok (.int (f k)) G):∃y:Int,(1<=y/\y<=24)/\∀G,K6 [.fl (ns.map D.int)] G=.ok (.int y) G:=by
 have h1:∀G,Bg [.fl (ns.map D.int),.int 1] G=.ok (.int (f 1)) G:=hf 1 (by lia);by_cases h:f 1 / 4 % 4=1
 ·refine ⟨1 + f 1 / 16 % 24,by lia,λG=> ?_⟩;unfold K6 ZBW;rw [Br];simp [h1,h,Bx]
 ·refine ⟨1 + f 1 % 4,by lia,λG=> ?_⟩;unfold K6 ZBW;rw [Br];simp [h1,h,Bx]
noncomputable def O6 (xs:Nat->Int) (u:Int) (p:Bool):Nat->Nat->Int->List Stp
 | 0,_,_=> []
 | n + 1,j,low=>⟨low + u * (xs (1 + j) % 4),1 + u * (xs (1 + j) / 4 % 4), !(p && decide (xs (1 + j) / 16 % 2=1))⟩::O6 xs u p n (j + 1) (low + u * (xs (1 + j) % 4) + (1 + u * (xs (1 + j) / 4 % 4)))
theorem ZDO {xs:Nat->Int} (hu:0 < u) :∀(n j:Nat) (low:Int),Good low (O6 xs u p n j low)
 | 0,_,_=>trivial
 | n + 1,j,low=>by have h1:0<=u * (xs (1 + j) % 4):=Int.mul_nonneg (by lia) (by lia);have h2:0<=u * (xs (1 + j) / 4 % 4):=Int.mul_nonneg (by lia) (by lia);exact ⟨by show low<=low + _;lia,by show 1<=1 + _;lia,ZDO hu n (j + 1) _⟩
theorem ZGE {xs:Nat->Int} :∀(n j:Nat) (low:Int),∀s∈O6 xs u false n j low,s.r=true
 | 0,_,_,s,h=>by cases h
 | n + 1,j,low,s,h=>by
  rcases List.mem_cons.mp h with rfl | h
  ·simp
  ·exact ZGE n (j + 1) _ s h
theorem ZEW {xs:Nat->Int} {u:Int} {p:Bool} {G:DH}:∀(n j:Nat) (low:Int) (acc:List Stp) (x y z:Option D),j + n<=3->acc.length + n<=10->∃x' y' z' l',
  Bh (gV 5) U3 (Cq j n) [some (.fl (tab 4 xs)),some (.int u),some (.bl p),some (.ref G.length),some (.int low),x,y,z] (G++ [.lst (acc.map Stp.enc)])=
   .nx [some (.fl (tab 4 xs)),some (.int u),some (.bl p),some (.ref G.length),l',x',y',z'] (G++ [.lst ((acc++O6 xs u p n j low).map Stp.enc)])
 | 0,j,low,acc,x,y,z,h,ha=>⟨x,y,z,some (.int low),by rw [Lz,Ed];simp [O6]⟩
 | n + 1,j,low,acc,x,y,z,h,ha=>by
  have hj:1 + j < 4:=by lia
  have a1:atI (tab 4 xs) (1 + (j:Int))=some (.int (xs (1 + j))):=Fe (k:=1 + j) (by lia) (Mm hj);let s:Stp:=⟨low + u * (xs (1 + j) % 4),1 + u * (xs (1 + j) / 4 % 4), !(p && decide (xs (1 + j) / 16 % 2=1))⟩;obtain ⟨x',y',z',l',ih⟩:=ZEW (xs:=xs) (u:=u) (p:=p) (G:=G) n (j + 1) (s.h + s.m) (acc++ [s]) (some (.int j)) (some (.int s.m)) (some (.str (wy s.r))) (by lia) (by simp;lia);refine ⟨x',y',z',l',?_⟩
  have m1:∀G,Bs (.int u) (.int (xs (1 + j) % 4)) G=.ok (.int (u * (xs (1 + j) % 4))) G:=λG=>Mi (by lia) (by lia)
  have m2:∀G,Bs (.int u) (.int (xs (1 + j) / 4 % 4)) G=.ok (.int (u * (xs (1 + j) / 4 % 4))) G:=λG=>Mi (by lia) (by lia)
  have hal:acc.length < 1000000:=by lia
  have hb:U3 [some (.fl (tab 4 xs)),some (.int u),some (.bl p),some (.ref G.length),some (.int low),some (.int j),y,z] (G++ [.lst (acc.map Stp.enc)])=
    .nx [some (.fl (tab 4 xs)),some (.int u),some (.bl p),some (.ref G.length),some (.int (s.h + s.m)),some (.int j),some (.int s.m),some (.str (wy s.r))] (G++ [.lst ((acc++ [s]).map Stp.enc)]):=by
   unfold U3;cases p with
   | false=>simp [a1,m1,m2,Dq,Fb,hal,Bq,s,Stp.enc,wy]
   | true=>
    by_cases h16:xs (1 + j) / 16 % 2=1
    ·simp [a1,m1,m2,h16,Dq,Fb,hal,Bq,s,Stp.enc,wy]
    ·simp [a1,m1,m2,h16,Dq,Fb,hal,Bq,s,Stp.enc,wy]
  rw [Ko,Dk];simp only [Ds,R.Di,List.set,hb,Dv];have e1:((j:Int) + 1)=((j + 1:Nat):Int):=by lia
  rw [e1,ih];simp [O6,s]
noncomputable def stps (xs:Nat->Int) (u:Int) (p:Bool):List Stp:=O6 xs u p (xs 0 % 4).toNat 0 0
theorem ZDU {xs:Nat->Int} (G:DH):Y8 [.fl (tab 4 xs),.int u,.bl p] G=.ok (.tup ((stps xs u p).map Stp.enc)) G:=by
 have hn:(xs 0 % 4).toNat<=3:=by lia
 obtain ⟨x',y',z',l',hL⟩:=ZEW (xs:=xs) (u:=u) (p:=p) (G:=G) (xs 0 % 4).toNat 0 0 [] none none none (by lia) (by simp;lia);have hL':Bh (gV 5) U3 (Cq 0 (xs 0 % 4).toNat) [some (.fl (tab 4 xs)),some (.int u),some (.bl p),some (.ref G.length),some (.int 0),none,none,none] (G++ [.lst []])=.nx [some (.fl (tab 4 xs)),some (.int u),some (.bl p),some (.ref G.length),l',x',y',z'] (G++ [.lst ((stps xs u p).map Stp.enc)]):=hL
 have a0:atI (tab 4 xs) 0=some (.int (xs 0)):=Fe (k:=0) rfl (Mm (by lia));have hr:inR (xs 0 % 4):=Hz (by lia) (by lia);unfold Y8 ZG2;rw [Br];simp [Ar,Fv,a0,hr,hL',Dq,Qu]
noncomputable def Ib (st:List Stp):Int:=match st with
 | []=>0
 | s::r=>(if s.r then 0 else s.m) + Ib r
theorem ZDm {c:D} {G:DH}:∀(st:List Stp) (v:Int) (x y z:Option D),∃x' y' z',Bh (Bw 3 (Aq (gV 2) (Aq (gV 3) (Aq (gV 4) Cg)))) Xz (st.map Stp.enc) [some c,some (.int v),x,y,z] G=.nx [some c,some (.int (v + Ib st)),x',y',z'] G
 | [],v,x,y,z=>⟨x,y,z,by simp [Ib,Ed]⟩
 | s::st,v,x,y,z=>by
  let v1:Int:=v + if s.r then 0 else s.m
  obtain ⟨x',y',z',ih⟩:=ZDm (c:=c) (G:=G) st v1 (some (.int s.h)) (some (.int s.m)) (some (.str (wy s.r)));refine ⟨x',y',z',?_⟩;have hb:Xz [some c,some (.int v),some (.int s.h),some (.int s.m),some (.str (wy s.r))] G=.nx [some c,some (.int v1),some (.int s.h),some (.int s.m),some (.str (wy s.r))] G:=by
   unfold Xz
   cases e:s.r <;> simp [v1,e]
  rw [List.map_cons,Dk];simp [Stp.enc,hb];rw [ih];simp [Ib,v1,Int.add_assoc]
theorem ZOE (G:DH):Xr [.tup (st.map Stp.enc)] G=.ok (.int (Ib st)) G:=by obtain ⟨x',y',z',hL⟩:=ZDm (c:=.tup (st.map Stp.enc)) (G:=G) st 0 none none none;unfold Xr ZE5;rw [Br];simp at hL;simp [hL,Bx]
noncomputable def Fj (lat:Nat->Int) (cel:Nat->Nat->Int) (u:Int) (p:Bool) (yr:Int):Nat->Nat->Int->List Ssn
 | 0,_,_=> []
 | m + 1,j,bg=>if j=0∨(lat j % 2=1/\bg + 1 < yr) then (if 0 < j then bg + 1 + lat j / 2 % (yr - bg - 1) else bg,stps (cel j) u p)::Fj lat cel u p yr m (j + 1) (if 0 < j then bg + 1 + lat j / 2 % (yr - bg - 1) else bg)
  else Fj lat cel u p yr m (j + 1) bg
theorem ZBa {lat:Nat->Int} {cel:Nat->Nat->Int} (hu:0 < u) :∀(m j:Nat) (bg:Int),∀s∈Fj lat cel u p yr m j bg,Good 0 s.2/\(p=false->∀t∈s.2,t.r=true)
 | 0,_,_,s,h=>by cases h
 | m + 1,j,bg,s,h=>by
  unfold Fj at h;split at h
  ·rcases List.mem_cons.mp h with rfl | h
   ·refine ⟨ZDO hu _ _ _,λhp=> ?_⟩;subst hp;exact ZGE _ _ _
   ·exact ZBa hu m (j + 1) _ s h
  ·exact ZBa hu m (j + 1) _ s h
theorem Vj {lat:Nat->Int} {cel:Nat->Nat->Int} {u:Int} {p:Bool} {yr:Int}:∀(m j:Nat) (bg:Int),0 < j->bg < yr->(∀s∈Fj lat cel u p yr m j bg,bg < s.1/\s.1 < yr)/\(Fj lat cel u p yr m j bg).Pairwise (λa b:Ssn=>a.1 < b.1)
 | 0,_,_,_,_=>⟨λs h=>(nomatch h),List.Pairwise.nil⟩
 | m + 1,j,bg,hj,hb=>by
  unfold Fj;split
  ·rename_i hc;have hc2:bg + 1 < yr:=by
    rcases hc with z | z
    ·lia
    ·exact z.2
   have h1:0<=lat j / 2 % (yr - bg - 1):=Int.emod_nonneg _ (by lia);have h2:lat j / 2 % (yr - bg - 1) < yr - bg - 1:=Int.emod_lt_of_pos _ (by lia);obtain ⟨i1,i2⟩:=Vj (lat:=lat) (cel:=cel) (u:=u) (p:=p) (yr:=yr) m (j + 1) (bg + 1 + lat j / 2 % (yr - bg - 1)) (by lia) (by lia);refine ⟨λs hs=> ?_,List.pairwise_cons.mpr ⟨λs hs=>(i1 s hs).1,i2⟩⟩;rcases List.mem_cons.mp hs with rfl | hs
   ·exact ⟨by show bg < bg + 1 + _;lia,by show bg + 1 + _ < yr;lia⟩
   ·have:=i1 s hs;lia
  ·exact Vj m (j + 1) bg (by lia) hb
theorem Vy {te:DE} {n:Nat} {F:Nat->D} (h:∀k:Nat,k < n->te (S.set 0 (some (.int k))) G=.ok (F k) G):Eb (gV 0) Ce te S (Cq 0 n) G=.ok ((List.range n).map F) G:=by
 have e:Cq 0 n=(List.range n).map λ(i:Nat)=>D.int (i:Int):=by
  refine List.ext_getElem? λi=> ?_
  simp [Cq]
 rw [Wo (F:=λd=>match d with | .int i=>some (F i.toNat) | _=>none) (λq hq=> ?_)]
 ·congr 1
  rw [e,List.filterMap_map];show (List.range n).filterMap (λ(i:Nat)=>some (F ((i:Int).toNat)))=_;rw [List.filterMap_eq_map'];simp
 ·rw [e] at hq;obtain ⟨i,hi,rfl⟩:=List.mem_map.mp hq;exact ⟨S.set 0 (some (.int i)),by simp,.inr ⟨rfl,F i,h i (List.mem_range.mp hi),by simp⟩⟩
noncomputable def Oc:Nat->Int
 | 0=>1
 | 1=>48
 | 2=>2304
 | _=>110592
noncomputable def R3:Nat->Int
 | 0=>1
 | 1=>64
 | 2=>4096
 | _=>262144
theorem ZDN (hf:∀k:Nat,k<=1000->∀G,Bg [.fl (ns.map D.int),.int k] G=.ok (.int (f k)) G) (hb:b<=900) (hj:j < 4) (G:DH):
  Eb (gV 0) Ce ZAY [none,some (.fl (ns.map D.int)),some (.int b),some (.int j)] (Cq 0 4) G=.ok (tab 4 λk=>f (b + 5 + (3 * j + k) % 6) / (1 + 7 * ((j:Int) / 2))) G:=
 Vy (n:=4) (F:=λk=>.int (f (b + 5 + (3 * j + k) % 6) / (1 + 7 * ((j:Int) / 2)))) λk hk=>by
  have h1:=hf (b + 5 + (3 * j + k) % 6) (by lia) G;have e1:((b + 5 + (3 * j + k) % 6:Nat):Int)=(b:Int) + 5 + (3 * (j:Int) + k) % 6:=by lia
  rw [e1] at h1;unfold ZAY
  rcases (by lia:j=0∨j=1∨j=2∨j=3) with rfl | rfl | rfl | rfl <;> simp at h1 ⊢ <;> simp [h1]
theorem ZOi (hf:∀k:Nat,k<=1000->∀G,Bg [.fl (ns.map D.int),.int k] G=.ok (.int (f k)) G) (hb:b<=900) (hj:j < 4) (G:DH):
  Eb (gV 0) Ce ZBb [none,some (.fl (ns.map D.int)),some (.int b),some (.int j)] (Cq 0 4) G=.ok (tab 4 λk=>f (b + 5 + k) / R3 j) G:=
 Vy (n:=4) (F:=λk=>.int (f (b + 5 + k) / R3 j)) λk hk=>by
  have h1:=hf (b + 5 + k) (by lia) G;have e1:((b + 5 + k:Nat):Int)=(b:Int) + 5 + k:=by lia
  rw [e1] at h1;have fz:freeze G (.ok (.ref G.length) (G++ [.lst [.int 1,.int 64,.int 4096,.int 262144]]))=.ok (.fl [.int 1,.int 64,.int 4096,.int 262144]) G:=Gy rfl;unfold ZBb
  rcases (by lia:j=0∨j=1∨j=2∨j=3) with rfl | rfl | rfl | rfl <;> simp [h1,Ar,fz,R3]
theorem ZMV (hf:∀k:Nat,k<=1000->∀G,Bg [.fl (ns.map D.int),.int k] G=.ok (.int (f k)) G) (hb:b<=900) (hj:j < 4):∃(lat:Int) (xs:Nat->Int),∀(G:DH) (bg:Int) (acc:List Ssn) (x y:Option D),acc.length<=10->bg < yr->∃bg' acc',
   Mh [some (.fl (ns.map D.int)),some (.int b),some (.int u),some (.bl p),some (.int yr),some (.ref G.length),some (.int bg),some (.int j),x,y] (G++ [.lst (acc.map Df)])=
    .nx [some (.fl (ns.map D.int)),some (.int b),some (.int u),some (.bl p),some (.int yr),some (.ref G.length),some (.int bg'),some (.int j),some (.int lat),some (.fl (tab 4 xs))] (G++ [.lst (acc'.map Df)])/\
   ((j=0∨(lat % 2=1/\bg + 1 < yr))->bg'=(if 0 < j then bg + 1 + lat / 2 % (yr - bg - 1) else bg)/\acc'=acc++ [(bg',stps xs u p)])/\
   (¬(j=0∨(lat % 2=1/\bg + 1 < yr))->bg'=bg/\acc'=acc):=by
 obtain ⟨tp,ht⟩:=ZGC (ns:=ns);have h4:=hf (b + 4) (by lia);have e4:((b + 4:Nat):Int)=(b:Int) + 4:=by lia
 rw [e4] at h4;let lat:Int:=if tp then f (b + 4) / Oc j else f (b + 4) * 48271 * ((j:Int) * j + 1) % 10007
 let xs:Nat->Int:=if tp then λk=>f (b + 5 + k) / R3 j else λk=>f (b + 5 + (3 * j + k) % 6) / (1 + 7 * ((j:Int) / 2))
 refine ⟨lat,xs,λG bg acc x y ha hbg=> ?_⟩;have hr:inR 4:=Hz (by lia) (by lia);have hal:acc.length < 1000000:=by lia
 have fz:∀ds:List D,(∀m,bels m ds=true)->freeze (G++ [.lst (acc.map Df)]) (.ok (.ref (G.length + 1)) (G++ [.lst (acc.map Df),.lst ds]))=.ok (.fl ds) (G++ [.lst (acc.map Df)]):=λds h=>ZGL (h _)
 have cs1:∀a b c d e f' g h i j':Option D,Bf 1 [0,1,7] [a,b,c,d,e,f',g,h,i,j']= [none,a,b,h]:=λ_ _ _ _ _ _ _ _ _ _=>rfl
 have mj:∀G,Bs (.int (j:Int)) (.int (j:Int)) G=.ok (.int ((j:Int) * j)) G:=λG=>Kr (by lia) (by lia)
 have mj2:∀G,Bs (.int (f (b + 4) * 48271)) (.int ((j:Int) * j + 1)) G=.ok (.int (f (b + 4) * 48271 * ((j:Int) * j + 1))) G:=λG=>Mi (by
   have:=Int.mul_nonneg (show (0:Int)<=j by lia) (show (0:Int)<=j by lia);lia) (by
   rcases (by lia:j=0∨j=1∨j=2∨j=3) with rfl | rfl | rfl | rfl <;> decide)
 have head:Mh [some (.fl (ns.map D.int)),some (.int b),some (.int u),some (.bl p),some (.int yr),some (.ref G.length),some (.int bg),some (.int j),x,y] (G++ [.lst (acc.map Df)])=
   Uq [some (.fl (ns.map D.int)),some (.int b),some (.int u),some (.bl p),some (.int yr),some (.ref G.length),some (.int bg),some (.int j),some (.int lat),some (.fl (tab 4 xs))] (G++ [.lst (acc.map Df)]):=by
  unfold Mh ZGw ZEt;cases htp:tp with
  | false=>
   have e1:lat=f (b + 4) * 48271 * ((j:Int) * j + 1) % 10007:=by simp [lat,htp]
   have e2:xs=λk=>f (b + 5 + (3 * j + k) % 6) / (1 + 7 * ((j:Int) / 2)):=by simp [xs,htp]
   rw [e1,e2];rw [htp] at ht;simp [h4,mj,mj2,hr,cs1,ZDN hf hb hj,Ar,fz,ht]
  | true=>
   have e1:lat=f (b + 4) / Oc j:=by simp [lat,htp]
   have e2:xs=λk=>f (b + 5 + k) / R3 j:=by simp [xs,htp]
   rw [e1,e2];rw [htp] at ht;have dv:atI [D.int 1,D.int 48,D.int 2304,D.int 110592] (j:Int)=some (.int (Oc j)):=by rcases (by lia:j=0∨j=1∨j=2∨j=3) with rfl | rfl | rfl | rfl <;> rfl
   have dd:∀G',Dg (.int (f (b + 4))) (.int (Oc j)) G'=.ok (.int (f (b + 4) / Oc j)) G':=λG'=>by rcases (by lia:j=0∨j=1∨j=2∨j=3) with rfl | rfl | rfl | rfl <;> simp [Oc]
   have fz4:freeze (G++ [.lst (acc.map Df)]) (.ok (.ref (G.length + 1)) (G++ [.lst (acc.map Df),.lst [D.int 1,D.int 48,D.int 2304,D.int 110592]]))=.ok (.fl [D.int 1,D.int 48,D.int 2304,D.int 110592]) (G++ [.lst (acc.map Df)]):=ZGL rfl;simp [h4,mj,mj2,hr,cs1,ZDN hf hb hj,Ar,fz,ht,fz4,dv,dd,ZOi hf hb hj]
 rw [head]
 clear_value lat xs
 by_cases hc:j=0∨(lat % 2=1/\bg + 1 < yr)
 ·refine ⟨_,_,?_,λ_=>⟨rfl,rfl⟩,λz=>absurd hc z⟩;unfold Uq;by_cases h0:j=0
  ·subst h0;simp [ZDU,Bq,Dq,Fb,hal,Df]
  ·have hc2:lat % 2=1/\bg + 1 < yr:=by
    rcases hc with z | z
    ·exact absurd z h0
    ·exact z
   have hj0:0 < j:=by lia
   have hp:0 < yr - bg - 1:=by lia
   have hp3:1 < yr - bg:=by lia
   simp [h0,hc2.1,hc2.2,hj0,hp3,ZDU,Bq,Dq,Fb,hal,Df]
 ·refine ⟨bg,acc,?_,λz=>absurd z hc,λ_=>⟨rfl,rfl⟩⟩;have h0:¬j=0:=λz=>hc (.inl z)
  unfold Uq;by_cases h1:lat % 2=1
  ·have h2:¬bg + 1 < yr:=λz=>hc (.inr ⟨h1,z⟩)
   simp [h0,h1,h2]
  ·simp [h0,h1]
theorem ZBL {lat:Nat->Int} {cel:Nat->Nat->Int}
  (hd:∀j:Nat,j < 4->∀(G:DH) (bg:Int) (acc:List Ssn) (x y:Option D),acc.length<=10->bg < yr->∃bg' acc',
   Mh [some (.fl (ns.map D.int)),some (.int b),some (.int u),some (.bl p),some (.int yr),some (.ref G.length),some (.int bg),some (.int j),x,y] (G++ [.lst (acc.map Df)])=
    .nx [some (.fl (ns.map D.int)),some (.int b),some (.int u),some (.bl p),some (.int yr),some (.ref G.length),some (.int bg'),some (.int j),some (.int (lat j)),some (.fl (tab 4 (cel j)))] (G++ [.lst (acc'.map Df)])/\
   ((j=0∨(lat j % 2=1/\bg + 1 < yr))->bg'=(if 0 < j then bg + 1 + lat j / 2 % (yr - bg - 1) else bg)/\acc'=acc++ [(bg',stps (cel j) u p)])/\
   (¬(j=0∨(lat j % 2=1/\bg + 1 < yr))->bg'=bg/\acc'=acc)) {G:DH}:∀(m j:Nat) (bg:Int) (acc:List Ssn) (x y z:Option D),j + m=4->acc.length<=j->bg < yr->∃x' y' z' w',
   Bh (gV 7) Mh (Cq j m) [some (.fl (ns.map D.int)),some (.int b),some (.int u),some (.bl p),some (.int yr),some (.ref G.length),some (.int bg),x,y,z] (G++ [.lst (acc.map Df)])=
    .nx [some (.fl (ns.map D.int)),some (.int b),some (.int u),some (.bl p),some (.int yr),some (.ref G.length),x',y',z',w'] (G++ [.lst ((acc++Fj lat cel u p yr m j bg).map Df)])
 | 0,j,bg,acc,x,y,z,e,ha,hb=>⟨some (.int bg),x,y,z,by rw [Lz,Ed];simp [Fj]⟩
 | m + 1,j,bg,acc,x,y,z,e,ha,hb=>by
  obtain ⟨bg',acc',h1,h2,h3⟩:=hd j (by lia) G bg acc y z (by lia) hb;have e1:((j:Int) + 1)=((j + 1:Nat):Int):=by lia
  by_cases hc:j=0∨(lat j % 2=1/\bg + 1 < yr)
  ·obtain ⟨r1,r2⟩:=h2 hc;have hbg:bg' < yr:=by
    rw [r1];split
    ·have h4:bg + 1 < yr:=by
      rcases hc with z | z
      ·lia
      ·exact z.2
     have h5:lat j / 2 % (yr - bg - 1) < yr - bg - 1:=Int.emod_lt_of_pos _ (by lia);lia
    ·exact hb
   obtain ⟨x',y',z',w',ih⟩:=ZBL hd (G:=G) m (j + 1) bg' acc' (some (.int j)) (some (.int (lat j))) (some (.fl (tab 4 (cel j)))) (by lia) (by rw [r2];simp;lia) hbg;refine ⟨x',y',z',w',?_⟩;rw [Ko,Dk];simp only [Ds,R.Di,List.set,h1,Dv];have er:Fj lat cel u p yr (m + 1) j bg=(bg',stps (cel j) u p)::Fj lat cel u p yr m (j + 1) bg':=by rw [r1];exact if_pos hc
   rw [e1,ih,r2,er];simp
  ·obtain ⟨r1,r2⟩:=h3 hc;obtain ⟨x',y',z',w',ih⟩:=ZBL hd (G:=G) m (j + 1) bg' acc' (some (.int j)) (some (.int (lat j))) (some (.fl (tab 4 (cel j)))) (by lia) (by rw [r2];lia) (by rw [r1];exact hb);refine ⟨x',y',z',w',?_⟩;rw [Ko,Dk];simp only [Ds,R.Di,List.set,h1,Dv];rw [e1,ih,r2,r1]
   conv=>rhs;unfold Fj
   rw [if_neg hc]
structure RuleOk (yr:Int) (p:Bool) (r:List Ssn):Prop where
 good:∀s∈r,Good 0 s.2/\(p=false->∀t∈s.2,t.r=true)
 cons:∃st rest,r=(0,st)::rest
 asc:r.Pairwise (λa b:Ssn=>a.1 < b.1)
 yr:∀s∈r,0<=s.1/\s.1 < yr
 len:r.length<=4
theorem ZAc {lat:Nat->Int} {cel:Nat->Nat->Int} {u:Int} {p:Bool} {yr:Int}:∀(m j:Nat) (bg:Int),(Fj lat cel u p yr m j bg).length<=m
 | 0,_,_=>Nat.le_refl _
 | m + 1,j,bg=>by
  unfold Fj;split
  ·have:=ZAc (lat:=lat) (cel:=cel) (u:=u) (p:=p) (yr:=yr) m (j + 1) (if 0 < j then bg + 1 + lat j / 2 % (yr - bg - 1) else bg);simp only [List.length_cons];lia
  ·have:=ZAc (lat:=lat) (cel:=cel) (u:=u) (p:=p) (yr:=yr) m (j + 1) bg;lia
theorem ZFE (hf:∀k:Nat,k<=1000->∀G,Bg [.fl (ns.map D.int),.int k] G=.ok (.int (f k)) G) (hyr:1<=yr/\yr<=24) (cy:∀G,K6 [.fl (ns.map D.int)] G=.ok (.int yr) G) (hb:b<=900) (hu:0 < u) :
  ∃r:List Ssn,RuleOk yr p r/\∀G,V1 [.fl (ns.map D.int),.int b,.int u,.bl p] G=.ok (.tup (r.map Df)) G:=by
 have ex:∀j:Nat,∃q:Int×(Nat->Int),j < 4->∀(G:DH) (bg:Int) (acc:List Ssn) (x y:Option D),acc.length<=10->bg < yr->∃bg' acc',
   Mh [some (.fl (ns.map D.int)),some (.int b),some (.int u),some (.bl p),some (.int yr),some (.ref G.length),some (.int bg),some (.int j),x,y] (G++ [.lst (acc.map Df)])=
    .nx [some (.fl (ns.map D.int)),some (.int b),some (.int u),some (.bl p),some (.int yr),some (.ref G.length),some (.int bg'),some (.int j),some (.int q.1),some (.fl (tab 4 q.2))] (G++ [.lst (acc'.map Df)])/\
   ((j=0∨(q.1 % 2=1/\bg + 1 < yr))->bg'=(if 0 < j then bg + 1 + q.1 / 2 % (yr - bg - 1) else bg)/\acc'=acc++ [(bg',stps q.2 u p)])/\
   (¬(j=0∨(q.1 % 2=1/\bg + 1 < yr))->bg'=bg/\acc'=acc):=λj=>by
  by_cases hj:j < 4
  ·obtain ⟨lat,xs,h⟩:=ZMV (u:=u) (yr:=yr) (p:=p) hf hb hj;exact ⟨(lat,xs),λ_=>h⟩
  ·exact ⟨(0,λ_=>0),λz=>absurd z hj⟩
 let lat:Nat->Int:=λj=>(ex j).choose.1
 let cel:Nat->Nat->Int:=λj=>(ex j).choose.2
 have hd:=λ(j:Nat) (hj:j < 4)=>(ex j).choose_spec hj
 refine ⟨Fj lat cel u p yr 4 0 0,⟨ZBa hu 4 0 0,?_,?_,?_,ZAc 4 0 0⟩,λG=> ?_⟩
 ·unfold Fj;rw [if_pos (.inl rfl)];exact ⟨_,_,rfl⟩
 ·unfold Fj;rw [if_pos (.inl rfl)];obtain ⟨i1,i2⟩:=Vj (lat:=lat) (cel:=cel) (u:=u) (p:=p) (yr:=yr) 3 1 0 (by lia) (by lia);exact List.pairwise_cons.mpr ⟨λs hs=>(i1 s hs).1,i2⟩
 ·unfold Fj;rw [if_pos (.inl rfl)];obtain ⟨i1,i2⟩:=Vj (lat:=lat) (cel:=cel) (u:=u) (p:=p) (yr:=yr) 3 1 0 (by lia) (by lia);intro s hs;rcases List.mem_cons.mp hs with rfl | hs
  ·exact ⟨Int.le_refl _,by show (0:Int) < yr;lia⟩
  ·have:=i1 s hs;lia
 ·obtain ⟨x',y',z',w',hL⟩:=ZBL (lat:=lat) (cel:=cel) hd (G:=G) 4 0 0 [] none none none (by lia) (by simp) (by lia);have hL':Bh (gV 7) Mh (Cq 0 4) [some (.fl (ns.map D.int)),some (.int b),some (.int u),some (.bl p),some (.int yr),some (.ref G.length),some (.int 0),none,none,none] (G++ [.lst []])=.nx [some (.fl (ns.map D.int)),some (.int b),some (.int u),some (.bl p),some (.int yr),some (.ref G.length),x',y',z',w'] (G++ [.lst ((Fj lat cel u p yr 4 0 0).map Df)]):=hL
  have hr:inR 4:=Hz (by lia) (by lia);generalize Fj lat cel u p yr 4 0 0=rl at hL';unfold V1 ZD7;rw [Br];simp [cy,Ar,Fv,hr,hL',Dq,Qu]
noncomputable def ZAv:List Nat:=("abcdefghijklmnopqrstuvwxyz":Str).cps.toList
noncomputable def ZA8:List Nat:=("abcdefghijkl":Str).cps.toList
theorem ZKx:∀i,i < 26->ZAv[i]? =some (97 + i):=by decide +kernel
theorem ZJY:∀i,i < 12->ZA8[i]? =some (97 + i):=by decide +kernel
noncomputable def Em (l:List Nat):Str:=⟨l.toArray⟩
theorem ZGB {l l':List Nat} (h:Em l=Em l'):l=l':=by have h1:=congrArg (λs:Str=>s.cps.toList) h;simpa [Em] using h1
theorem ZM5 {l l':List Nat}:Em l++Em l'=Em (l++l'):=by show Str.append _ _=_;unfold Str.append Em;simp
theorem ZHl {s:Str} {l:List Nat} (h:s.cps.toList=l):s=Em l:=by obtain ⟨a⟩:=s;unfold Em;simp only at h;rw [<-h]
theorem ZJ8 {o:Nat} {n:Int}:O8 ⟨#[o]⟩ n=Em (List.replicate n.toNat o):=by
 refine ZHl ?_;rw [ZOv];show (List.replicate n.toNat [o]).flatten=_;generalize n.toNat=m
 induction m with
 | zero=>rfl
 | succ m ih=>rw [List.replicate_succ,List.flatten_cons,ih,List.replicate_succ];rfl
noncomputable def ocF (c:Int):Nat:=97 + (c / 21 % 26).toNat
noncomputable def tcF (c:Int) (k:Nat):Nat:=97 + ((5 * (k:Int) + c / 546) % 12).toNat
noncomputable def Ge (c:Int) (n k:Nat):List Nat:=if c % 3=1/\n < 9 then List.replicate (k + 1) (ocF c) else if c % 3=2 then tcF c k::List.replicate (c / 3 % 7).toNat (ocF c) else List.replicate (c / 3 % 7).toNat (ocF c)++tcF c k::List.replicate (6 - (c / 3 % 7)).toNat (ocF c)
theorem ZKR {n:Nat} (hn:n<=12) (hk:k < n) (G:DH):Wu [.int c,.int k,.int n] G=.ok (.str (Em (Ge c n k))) G:=by
 have a1:atI ZAv (c / 21 % 26)=some (ocF c):=Fe (k:=(c / 21 % 26).toNat) (by lia) (ZKx _ (by lia));have a2:atI ZA8 ((5 * (k:Int) + c / 546) % 12)=some (tcF c k):=Fe (k:=((5 * (k:Int) + c / 546) % 12).toNat) (by lia) (ZJY _ (by lia));have l1:("abcdefghijklmnopqrstuvwxyz":Str).length<=1000000:=by decide +kernel
 have l2:("abcdefghijkl":Str).length<=1000000:=by decide +kernel
 have ho:∀m:Int,-1000<=m->m<=1000->∀G,Bs (.str ⟨#[ocF c]⟩) (.int m) G=.ok (.str (Em (List.replicate m.toNat (ocF c)))) G:=λm h1 h2 G=>by rw [ZPP ⟨h1,h2,by show (#[ocF c]).size<=1000;simp⟩,ZJ8]
 have e1:∀G,Aj (.str ("abcdefghijklmnopqrstuvwxyz":Str)) (.int (c / 21 % 26)) G=R.ok (.str ⟨#[ocF c]⟩) G:=λG=>by
  rw [P0,if_pos l1]
  show (match atI ZAv (c / 21 % 26) with | some c=>R.ok (sgn c) G | none=>.bad)=_
  rw [a1]
  rfl
 have e2:∀G,Aj (.str ("abcdefghijkl":Str)) (.int ((5 * (k:Int) + c / 546) % 12)) G=R.ok (.str (Em [tcF c k])) G:=λG=>by
  rw [P0,if_pos l2]
  show (match atI ZA8 ((5 * (k:Int) + c / 546) % 12) with | some c=>R.ok (sgn c) G | none=>.bad)=_
  rw [a2]
  rfl
 have hadd:∀(l l':List Nat) (G:DH),l.length + l'.length<=1000000->Ay (.str (Em l)) (.str (Em l')) G=.ok (.str (Em (l++l'))) G:=λl l' G h=>by
  have e:Ay (.str (Em l)) (.str (Em l')) G=if (Em l).length + (Em l').length<=1000000 then .ok (.str (Em l++Em l')) G else .bad:=rfl
  rw [e,if_pos (by show l.toArray.size + l'.toArray.size<=1000000;simpa using h),ZM5]
 unfold Wu ZFb;rw [Br];by_cases h1:c % 3=1
 ·by_cases h9:n < 9
  ·have en:Ge c n k=List.replicate (k + 1) (ocF c):=if_pos ⟨h1,h9⟩;have hk2:=ho ((k:Int) + 1) (by lia) (by lia);have ek:((k:Int) + 1).toNat=k + 1:=by lia
   rw [ek] at hk2;rw [en];have h9':(n:Int) < 9:=by lia
   simp [-P0,e1,h1,h9',hk2,Bx]
  ·have en:Ge c n k=List.replicate (c / 3 % 7).toNat (ocF c)++tcF c k::List.replicate (6 - (c / 3 % 7)).toNat (ocF c):=by unfold Ge;rw [if_neg (λz=>h9 z.2),if_neg (by lia)]
   have r1:=ho (c / 3 % 7) (by lia) (by lia);have r2:=ho (6 - (c / 3 % 7)) (by lia) (by lia);have d1:=λG=>hadd (List.replicate (c / 3 % 7).toNat (ocF c)) [tcF c k] G (by simp;lia)
   have d2:=λG=>hadd (List.replicate (c / 3 % 7).toNat (ocF c)++ [tcF c k]) (List.replicate (6 - (c / 3 % 7)).toNat (ocF c)) G (by simp;lia)
   have ea:List.replicate (c / 3 % 7).toNat (ocF c)++ [tcF c k]++List.replicate (6 - (c / 3 % 7)).toNat (ocF c)=Ge c n k:=by rw [en];simp
   rw [ea] at d2;have h9':¬(n:Int) < 9:=by lia
   simp [-P0,e1,e2,h1,h9',r1,r2,d1,d2,Bx]
 ·by_cases h2:c % 3=2
  ·have en:Ge c n k=tcF c k::List.replicate (c / 3 % 7).toNat (ocF c):=by unfold Ge;rw [if_neg (λz=>h1 z.1),if_pos h2]
   have r1:=ho (c / 3 % 7) (by lia) (by lia);have d1:=λG=>hadd [tcF c k] (List.replicate (c / 3 % 7).toNat (ocF c)) G (by simp;lia)
   have ea: [tcF c k]++List.replicate (c / 3 % 7).toNat (ocF c)=Ge c n k:=by rw [en];rfl
   rw [ea] at d1;simp [-P0,e1,e2,h2,r1,d1,Bx]
  ·have en:Ge c n k=List.replicate (c / 3 % 7).toNat (ocF c)++tcF c k::List.replicate (6 - (c / 3 % 7)).toNat (ocF c):=by unfold Ge;rw [if_neg (λz=>h1 z.1),if_neg h2]
   have r1:=ho (c / 3 % 7) (by lia) (by lia);have r2:=ho (6 - (c / 3 % 7)) (by lia) (by lia);have d1:=λG=>hadd (List.replicate (c / 3 % 7).toNat (ocF c)) [tcF c k] G (by simp;lia)
   have d2:=λG=>hadd (List.replicate (c / 3 % 7).toNat (ocF c)++ [tcF c k]) (List.replicate (6 - (c / 3 % 7)).toNat (ocF c)) G (by simp;lia)
   have ea:List.replicate (c / 3 % 7).toNat (ocF c)++ [tcF c k]++List.replicate (6 - (c / 3 % 7)).toNat (ocF c)=Ge c n k:=by rw [en];simp
   rw [ea] at d2;simp [-P0,e1,e2,h1,h2,r1,r2,d1,d2,Bx]
theorem ZEV {k':Nat} (hk:k < 12) (hk':k' < 12) (h:tcF c k=tcF c k'):k=k':=by unfold tcF at h;omega +splitNatSub
theorem ZNk {n k':Nat} (hn:n<=12) (hk:k < n) (hk':k' < n) (h:Ge c n k=Ge c n k'):k=k':=by
 unfold Ge at h;split at h
 ·have:=congrArg List.length h;simp at this;exact this
 ·split at h
  ·exact ZEV (by lia) (by lia) (List.cons.inj h).1
  ·have:=List.append_cancel_left h;exact ZEV (by lia) (by lia) (List.cons.inj this).1
theorem ZMX:("sea":Str)=Em [115,101,97]:=by decide +kernel
theorem ZLH {n:Nat}:Em (Ge c n k)≠"sea":=λh=>by
 rw [ZMX] at h;have h:=ZGB h;unfold Ge at h;split at h
 ·have h1:∀x∈ [115,101,97],x=ocF c:=λx hx=>by rw [<-h] at hx;exact List.eq_of_mem_replicate hx
  have a:=h1 115 (by simp);have b:=h1 101 (by simp);lia
 ·split at h
  ·have:=(List.cons.inj h).1;unfold tcF at this;lia
  ·have:=congrArg List.length h;simp at this;lia
theorem Oo {te:DE} {S:DSt} {E:α->D} {F:α->D} {G:DH}:∀{l:List α},(∀a∈l,te (S.set 0 (some (E a))) G=.ok (F a) G)->Eb (gV 0) Ce te S (l.map E) G=.ok (l.map F) G
 | [],_=>rfl
 | a::l,h=>by
  have h1:=h a (by simp);have ih:=Oo (te:=te) (S:=S) (E:=E) (F:=F) (G:=G) (l:=l) λb hb=>h b (List.mem_cons_of_mem _ hb)
  rw [List.map_cons,Ym];simp [h1,ih]
noncomputable def Cy (nm:Nat->Str) (n:Nat):List D:=(List.range n).map λk=>.str (nm k)
theorem Wq {n:Nat} (h:k < n):atI (Cy nm n) (k:Int)=some (.str (nm k)):=Fe rfl (by simp [Cy,h])
theorem Ti {n:Nat}:(Cy nm n).length=n:=by simp [Cy]
@[simp] theorem ZNX {n:Nat}:bels m (Cy nm n)=true:=G7 λ_ _=>rfl
noncomputable def Jw (nm:Nat->Str):Option (Nat×Nat×Int)->D
 | none=>.non
 | some (to,dl,m)=>.tup [.str (nm to),.int dl,.int m]
@[simp] theorem ZQp:bel m (Jw nm q)=true:=by
 cases q with
 | none=>rfl
 | some q=>obtain ⟨a,b,c⟩:=q;simp [Jw]
theorem ZKc (hf:∀k:Nat,k<=1000->∀G,Bg [.fl (ns.map D.int),.int k] G=.ok (.int (f k)) G) (hyr:1<=yr/\yr<=24) (cy:∀G,K6 [.fl (ns.map D.int)] G=.ok (.int yr) G) (hu:0 < u) (cu:∀G,Gs [.fl (ns.map D.int)] G=.ok (.int u) G) {n:Nat} (hb:b<=900) (hk:k < n) (hn:n<=12) {d:Str} {dl:Int}:
  ∃(r:List Ssn) (q:Option (Nat×Nat×Int)),RuleOk yr q.isSome r/\(∀to dl m,q=some (to,dl,m)->to < n/\1<=dl/\dl<=5)/\
   ∀G,Sx [.fl (ns.map D.int),.int b,.int k,.fl (Cy nm n),.tup [.str d,.int dl]] G=.ok (.tup [.str "basin",.str (nm k),.str d,.int dl,.int (amt (f (b + 3)) u),.tup (r.map Df),Jw nm q]) G:=by
 have h11:∀G,Bg [.fl (ns.map D.int),.int ((b:Int) + 11)] G=.ok (.int (f (b + 11))) G:=λG=>by have:=hf (b + 11) (by lia) G;rwa [show ((b + 11:Nat):Int)=(b:Int) + 11 by lia] at this
 have h3:∀G,Bg [.fl (ns.map D.int),.int ((b:Int) + 3)] G=.ok (.int (f (b + 3))) G:=λG=>by have:=hf (b + 3) (by lia) G;rwa [show ((b + 3:Nat):Int)=(b:Int) + 3 by lia] at this
 have ak:atI (Cy nm n) (k:Int)=some (.str (nm k)):=Wq hk;have fu:∀G,freeze G (.ok (.int u) G)=.ok (.int u) G:=λG=>Pa rfl
 generalize f (b + 11)=c at h11;by_cases hp:1 < n/\c % 2=1
 ·obtain ⟨r,hr,cr⟩:=ZFE (ns:=ns) (f:=f) hf hyr cy hb hu (p:=true);obtain ⟨st,rest,er⟩:=hr.cons;have hx0:0<=c / 2 % ((n:Int) - 1):=Int.emod_nonneg _ (by lia);have ht0:0<=((k:Int) + 1 + c / 2 % ((n:Int) - 1)) % n:=Int.emod_nonneg _ (by lia);have ht1:((k:Int) + 1 + c / 2 % ((n:Int) - 1)) % n < n:=Int.emod_lt_of_pos _ (by lia);generalize ht:((k:Int) + 1 + c / 2 % ((n:Int) - 1)) % n=t at ht0 ht1;have at_:atI (Cy nm n) t=some (.str (nm t.toNat)):=by have:=Wq (nm:=nm) (n:=n) (k:=t.toNat) (by lia);rwa [show ((t.toNat:Nat):Int)=t by lia] at this
  have mx:∀G,Pk [.fl (r.map λs=>.int (Ib s.2))] G=.ok (.int ((rest.map λs=>Ib s.2).foldl max (Ib st))) G:=λG=>ZNq (by rw [er];simp [Cd])
  have m2:∀G,Bs (.int u) (.int (c / 130 % 2)) G=.ok (.int (u * (c / 130 % 2))) G:=λG=>Mi (by lia) (by lia)
  have cp:∀(G:DH),Eb (gV 0) Ce Zv [none] (r.map Df) G=.ok (r.map λs=>.int (Ib s.2)) G:=λG=>Oo λs _=>by unfold Zv;simp [Df,ZOE]
  have fz:∀G:DH,freeze G (.ok (.ref G.length) (G++ [.lst (r.map λs=>.int (Ib s.2))]))=.ok (.fl (r.map λs=>.int (Ib s.2))) G:=λG=>Gy (G7 λ_ _=>rfl)
  have hd:((1 + c / 26 % 5).toNat:Int)=1 + c / 26 % 5:=by lia
  refine ⟨r,some (t.toNat,(1 + c / 26 % 5).toNat,(rest.map λs=>Ib s.2).foldl max (Ib st) + u * (c / 130 % 2)),hr,?_,λG=> ?_⟩
  ·intro to dl m e;cases e;lia
  ·have h1:(1:Int) < n:=by lia
   have h1':0 < (n:Int) - 1:=by lia
   have hn0:0 < (n:Int):=by lia
   have hn0':0 < n:=by lia
   have hrl:r.length<=1000000:=by have:=hr.len;lia
   unfold Sx Z2;rw [Br];simp [hrl,cu,fu,h11,Ti,hp.1,hp.2,h1,h1',hn0,hn0',cr,cp,Bf,fz,mx,m2,ht,at_,Bq,h3,O1 hu,ak,Bx,Jw,hd]
 ·obtain ⟨r,hr,cr⟩:=ZFE (ns:=ns) (f:=f) hf hyr cy hb hu (p:=false)
  refine ⟨r,none,hr,(λto dl m e=>nomatch e),λG=> ?_⟩
  unfold Sx Z2;rw [Br];by_cases h1:1 < n
  ·have h2:¬c % 2=1:=λz=>hp ⟨h1,z⟩
   have h1':(1:Int) < n:=by lia
   simp [cu,fu,h11,Ti,h1,h1',h2,cr,Bq,h3,O1 hu,ak,Bx,Jw]
  ·have h1':¬(1:Int) < n:=by lia
   simp [cu,fu,h11,Ti,h1,h1',cr,Bq,h3,O1 hu,ak,Bx,Jw]
noncomputable def dnS (nm:Nat->Str):Option Nat->Str
 | none=>"sea"
 | some d=>nm d
noncomputable def Il (nm:Nat->Str) (p:Pl):D:=match p.kd with
 | .basin b r q=>.tup [.str "basin",.str p.nm,.str (dnS nm p.dn),.int p.dl,.int b,.tup (r.map Df),Jw nm q]
 | .town a b=>.tup [.str "town",.str p.nm,.str (dnS nm p.dn),.int p.dl,.int a,.int b]
 | .mill a=>.tup [.str "mill",.str p.nm,.str (dnS nm p.dn),.int p.dl,.int a]
structure PlOk (yr:Int) (nm:Nat->Str) (n k:Nat) (p:Pl):Prop where
 nm:p.nm=nm k
 dn:∀d,p.dn=some d->k < d/\d < n
 dl:p.dl<=5
 basin:∀b r q,p.kd=.basin b r q->0<=b/\RuleOk yr q.isSome r/\∀to dl m,q=some (to,dl,m)->to < n/\1<=dl/\dl<=5
 town:∀a b,p.kd=.town a b->0<=a/\0<=b
 mill:∀a,p.kd=.mill a->0<=a
theorem ZJ3 (hf:∀k:Nat,k<=1000->∀G,Bg [.fl (ns.map D.int),.int k] G=.ok (.int (f k)) G) (hyr:1<=yr/\yr<=24) (cy:∀G,K6 [.fl (ns.map D.int)] G=.ok (.int yr) G) (hu:0 < u) (cu:∀G,Gs [.fl (ns.map D.int)] G=.ok (.int u) G) {n:Nat} (hk:k < n) (hn:n<=12) :
  ∃p:Pl,PlOk yr nm n k p/\∀(G:DH) (acc:List D) (x6 x7 x8 x9 x10 x11 x12:Option D),acc.length<=20->∃y6 y7 y8 y9 y10 y11 y12,
   M6 [some (.fl (ns.map D.int)),some (.int c),some (.int n),some (.fl (Cy nm n)),some (.int k),some (.ref G.length),x6,x7,x8,x9,x10,x11,x12] (G++ [.lst acc])=
    .nx [some (.fl (ns.map D.int)),some (.int c),some (.int n),some (.fl (Cy nm n)),some (.int k),some (.ref G.length),y6,y7,y8,y9,y10,y11,y12] (G++ [.lst (acc++ [Il nm p])]):=by
 have hc:∀j:Nat,j<=11->∀G,Bg [.fl (ns.map D.int),.int (((6 + 12 * k:Nat):Int) + j)] G=.ok (.int (f (6 + 12 * k + j))) G:=λj hj G=>by have:=hf (6 + 12 * k + j) (by lia) G;rwa [show ((6 + 12 * k + j:Nat):Int)=((6 + 12 * k:Nat):Int) + j by lia] at this
 have hb:6 + 12 * k<=900:=by lia
 have e6:(6 + 12 * (k:Int))=((6 + 12 * k:Nat):Int):=by lia
 have m12:∀G,Bs (.int 12) (.int (k:Int)) G=.ok (.int (12 * (k:Int))) G:=λG=>Kr (by lia) (by lia)
 have h0:∀G,Bg [.fl (ns.map D.int),.int ((6 + 12 * k:Nat):Int)] G=.ok (.int (f (6 + 12 * k))) G:=hf _ (by lia);have h1:∀G,Bg [.fl (ns.map D.int),.int (((6 + 12 * k:Nat):Int) + 1)] G=.ok (.int (f (6 + 12 * k + 1))) G:=hc 1 (by lia);have h2:∀G,Bg [.fl (ns.map D.int),.int (((6 + 12 * k:Nat):Int) + 2)] G=.ok (.int (f (6 + 12 * k + 2))) G:=hc 2 (by lia);have h3:∀G,Bg [.fl (ns.map D.int),.int (((6 + 12 * k:Nat):Int) + 3)] G=.ok (.int (f (6 + 12 * k + 3))) G:=hc 3 (by lia)
 have h4:∀G,Bg [.fl (ns.map D.int),.int (((6 + 12 * k:Nat):Int) + 4)] G=.ok (.int (f (6 + 12 * k + 4))) G:=hc 4 (by lia);have ak:atI (Cy nm n) (k:Int)=some (.str (nm k)):=Wq hk;have fu:∀G,freeze G (.ok (.int u) G)=.ok (.int u) G:=λG=>Pa rfl
 have cb:=λd dl=>ZKc (nm:=nm) (d:=d) (dl:=dl) hf hyr cy hu cu hb hk hn
 generalize 6 + 12 * k=b at hc hb e6 h0 h1 h2 h3 h4 cb;obtain ⟨s,hs0,hs1,hs⟩:∃s:Int,0<=s/\s < (n:Int) - k/\∀(H:DH) (x5 x7 x8 x9 x10 x11 x12:Option D),Va [some (.fl (ns.map D.int)),some (.int c),some (.int n),some (.fl (Cy nm n)),some (.int k),x5,some (.int b),x7,x8,x9,x10,x11,x12] H=
   T5 [some (.fl (ns.map D.int)),some (.int c),some (.int n),some (.fl (Cy nm n)),some (.int k),x5,some (.int b),some (.int s),x8,x9,x10,x11,x12] H:=by
  have hm:0 < (n:Int) - k:=by lia
  have hm':(k:Int) < n:=by lia
  by_cases hw:c / 280 % 3=1
  ·refine ⟨min 1 ((n:Int) - 1 - k),by lia,by lia,λH x5 x7 x8 x9 x10 x11 x12=> ?_⟩;unfold Va ZCt;simp [h1,hm,hm',hk,hw]
  ·refine ⟨f (b + 1) % ((n:Int) - k),Int.emod_nonneg _ (by lia),Int.emod_lt_of_pos _ hm,λH x5 x7 x8 x9 x10 x11 x12=> ?_⟩;unfold Va ZCt;simp [h1,hm,hm',hk,hw]
 obtain ⟨dn,dl,hdn,hdl,hr⟩:∃(dn:Option Nat) (dl:Nat),(∀d,dn=some d->k < d/\d < n)/\dl<=5/\∀(H:DH) (x5 x8 x9 x10 x11 x12:Option D),T5 [some (.fl (ns.map D.int)),some (.int c),some (.int n),some (.fl (Cy nm n)),some (.int k),x5,some (.int b),some (.int s),x8,x9,x10,x11,x12] H=
   T9 [some (.fl (ns.map D.int)),some (.int c),some (.int n),some (.fl (Cy nm n)),some (.int k),x5,some (.int b),some (.int s),some (.int (f (b + 2))),some (.tup [.str (dnS nm dn),.int dl]),x10,x11,x12] H:=by
  have hd:((f (b + 2) % 2 * (f (b + 2) / 2 % 6)).toNat:Int)=f (b + 2) % 2 * (f (b + 2) / 2 % 6)/\(f (b + 2) % 2 * (f (b + 2) / 2 % 6)).toNat<=5:=by rcases (by lia:f (b + 2) % 2=0∨f (b + 2) % 2=1) with z | z <;> rw [z] <;> lia
  have md:∀G,Bs (.int (f (b + 2) % 2)) (.int (f (b + 2) / 2 % 6)) G=.ok (.int (f (b + 2) % 2 * (f (b + 2) / 2 % 6))) G:=λG=>Mi (by lia) (by lia)
  generalize f (b + 2) % 2 * (f (b + 2) / 2 % 6)=w at hd md;by_cases hp:0 < s
  ·have a2:atI (Cy nm n) ((k:Int) + s)=some (.str (nm (k + s.toNat))):=by have:=Wq (nm:=nm) (n:=n) (k:=k + s.toNat) (by lia);rwa [show ((k + s.toNat:Nat):Int)=(k:Int) + s by lia] at this
   refine ⟨some (k + s.toNat),w.toNat,λd e=>by cases e;lia,hd.2,λH x5 x8 x9 x10 x11 x12=> ?_⟩;unfold T5 ZAV ZAi;simp [h2,md,hp,a2,Bq,dnS,hd.1]
  ·refine ⟨none,w.toNat,(λd e=>nomatch e),hd.2,λH x5 x8 x9 x10 x11 x12=> ?_⟩
   unfold T5 ZAV ZAi;simp [h2,md,hp,Bq,dnS,hd.1]
 obtain ⟨rk,hrk,hk2⟩:∃rk:Int,0<=rk/\∀(H:DH) (x5 x7 x8 x9 x10 x11 x12:Option D),T9 [some (.fl (ns.map D.int)),some (.int c),some (.int n),some (.fl (Cy nm n)),some (.int k),x5,some (.int b),x7,x8,x9,x10,x11,x12] H=
   Q9 [some (.fl (ns.map D.int)),some (.int c),some (.int n),some (.fl (Cy nm n)),some (.int k),x5,some (.int b),x7,x8,x9,some (.int (f b % 5)),some (.int (amt (f (b + 3)) u)),some (.int rk)] H:=by
  have fz:∀G:DH,freeze G (.ok (.ref G.length) (G++ [.lst [.int 4,.int 10000000000000000000000000000000000000000]]))=.ok (.fl [.int 4,.int 10000000000000000000000000000000000000000]) G:=λG=>Gy rfl
  rcases (by lia:c / 840 % 2=0∨c / 840 % 2=1) with z | z
  ·refine ⟨f (b + 4) % 4,by lia,λH x5 x7 x8 x9 x10 x11 x12=> ?_⟩;unfold T9 Ze ZBg;simp [h0,h3,h4,cu,fu,O1 hu,z,Ar,fz]
  ·refine ⟨f (b + 4) % 10000000000000000000000000000000000000000,by lia,λH x5 x7 x8 x9 x10 x11 x12=> ?_⟩;unfold T9 Ze ZBg;simp [h0,h3,h4,cu,fu,O1 hu,z,Ar,fz]
 have hal:∀acc:List D,acc.length<=20->acc.length < 1000000:=λacc h=>by lia
 have go:∀p:Pl,(∀(G:DH) (acc:List D),acc.length<=20->
   Q9 [some (.fl (ns.map D.int)),some (.int c),some (.int n),some (.fl (Cy nm n)),some (.int k),some (.ref G.length),some (.int b),some (.int s),some (.int (f (b + 2))),some (.tup [.str (dnS nm dn),.int dl]),some (.int (f b % 5)),some (.int (amt (f (b + 3)) u)),some (.int rk)] (G++ [.lst acc])=
    .nx [some (.fl (ns.map D.int)),some (.int c),some (.int n),some (.fl (Cy nm n)),some (.int k),some (.ref G.length),some (.int b),some (.int s),some (.int (f (b + 2))),some (.tup [.str (dnS nm dn),.int dl]),some (.int (f b % 5)),some (.int (amt (f (b + 3)) u)),some (.int rk)] (G++ [.lst (acc++ [Il nm p])]))->
   ∀(G:DH) (acc:List D) (x6 x7 x8 x9 x10 x11 x12:Option D),acc.length<=20->∃y6 y7 y8 y9 y10 y11 y12,
   M6 [some (.fl (ns.map D.int)),some (.int c),some (.int n),some (.fl (Cy nm n)),some (.int k),some (.ref G.length),x6,x7,x8,x9,x10,x11,x12] (G++ [.lst acc])=
    .nx [some (.fl (ns.map D.int)),some (.int c),some (.int n),some (.fl (Cy nm n)),some (.int k),some (.ref G.length),y6,y7,y8,y9,y10,y11,y12] (G++ [.lst (acc++ [Il nm p])]):=λp h9 G acc x6 x7 x8 x9 x10 x11 x12 ha=>by
  refine ⟨some (.int b),some (.int s),some (.int (f (b + 2))),some (.tup [.str (dnS nm dn),.int dl]),some (.int (f b % 5)),some (.int (amt (f (b + 3)) u)),some (.int rk),?_⟩
  ·unfold M6;have e:(sAs (dOp Ay (dC (.int 6)) (dOp Bs (dC (.int 12)) (dV 4))) (gV 6)) [some (.fl (ns.map D.int)),some (.int c),some (.int n),some (.fl (Cy nm n)),some (.int k),some (.ref G.length),x6,x7,x8,x9,x10,x11,x12] (G++ [.lst acc])=.nx [some (.fl (ns.map D.int)),some (.int c),some (.int n),some (.fl (Cy nm n)),some (.int k),some (.ref G.length),some (.int b),x7,x8,x9,x10,x11,x12] (G++ [.lst acc]):=by simp [m12,e6]
   rw [X4,e,Ud,hs,hr,hk2];exact h9 G acc ha
 by_cases hk1:f b % 5 < 2
 ·obtain ⟨r,q,hr1,hq,cr⟩:=cb (dnS nm dn) dl
  refine ⟨⟨nm k,dn,dl,.basin (amt (f (b + 3)) u) r q⟩,⟨rfl,hdn,hdl,λb' r' q' e=> ?_,(λ_ _ e=>nomatch e),(λ_ e=>nomatch e)⟩,go _ λG acc ha=> ?_⟩
  ·cases e;exact ⟨Uj hu,hr1,hq⟩
  ·have fr:∀G:DH,freeze G (.ok (.tup [.str "basin",.str (nm k),.str (dnS nm dn),.int dl,.int (amt (f (b + 3)) u),.tup (r.map Df),Jw nm q]) G)=.ok (.tup [.str "basin",.str (nm k),.str (dnS nm dn),.int dl,.int (amt (f (b + 3)) u),.tup (r.map Df),Jw nm q]) G:=λG=>Pa (by simp)
   unfold Q9;simp [hk1,cr,fr,Dq,Fb,hal acc ha,Il]
 ·by_cases hk3:f b % 5 < 4
  ·refine ⟨⟨nm k,dn,dl,.town (amt (f (b + 3)) u) rk⟩,⟨rfl,hdn,hdl,(λ_ _ _ e=>nomatch e),λa b' e=> ?_,(λ_ e=>nomatch e)⟩,go _ λG acc ha=> ?_⟩
   ·cases e;exact ⟨Uj hu,hrk⟩
   ·unfold Q9;simp [hk1,hk3,ak,Bq,Dq,Fb,hal acc ha,Il]
  ·refine ⟨⟨nm k,dn,dl,.mill (amt (f (b + 3)) u)⟩,⟨rfl,hdn,hdl,(λ_ _ _ e=>nomatch e),(λ_ _ e=>nomatch e),λa e=> ?_⟩,go _ λG acc ha=> ?_⟩
   ·cases e;exact Uj hu
   ·unfold Q9;simp [hk1,hk3,ak,Bq,Dq,Fb,hal acc ha,Il]
theorem ZFA {n:Nat} {P:Nat->Pl} 
  (hd:∀k,k < n->∀(acc:List D) (x6 x7 x8 x9 x10 x11 x12:Option D),acc.length<=20->∃y6 y7 y8 y9 y10 y11 y12,
   M6 [some (.fl (ns.map D.int)),some (.int c),some (.int n),some (.fl (Cy nm n)),some (.int k),some (.ref G.length),x6,x7,x8,x9,x10,x11,x12] (G++ [.lst acc])=
    .nx [some (.fl (ns.map D.int)),some (.int c),some (.int n),some (.fl (Cy nm n)),some (.int k),some (.ref G.length),y6,y7,y8,y9,y10,y11,y12] (G++ [.lst (acc++ [Il nm (P k)])])):
  ∀(m k:Nat) (acc:List D) (x4 x6 x7 x8 x9 x10 x11 x12:Option D),k + m=n->acc.length + m<=20->∃y4 y6 y7 y8 y9 y10 y11 y12,
   Bh (gV 4) M6 (Cq k m) [some (.fl (ns.map D.int)),some (.int c),some (.int n),some (.fl (Cy nm n)),x4,some (.ref G.length),x6,x7,x8,x9,x10,x11,x12] (G++ [.lst acc])=
    .nx [some (.fl (ns.map D.int)),some (.int c),some (.int n),some (.fl (Cy nm n)),y4,some (.ref G.length),y6,y7,y8,y9,y10,y11,y12] (G++ [.lst (acc++(List.range' k m).map λi=>Il nm (P i))])
 | 0,k,acc,x4,x6,x7,x8,x9,x10,x11,x12,e,ha=>⟨x4,x6,x7,x8,x9,x10,x11,x12,by rw [Lz,Ed];simp⟩
 | m + 1,k,acc,x4,x6,x7,x8,x9,x10,x11,x12,e,ha=>by
  obtain ⟨y6,y7,y8,y9,y10,y11,y12,hb⟩:=hd k (by lia) acc x6 x7 x8 x9 x10 x11 x12 (by lia);obtain ⟨z4,z6,z7,z8,z9,z10,z11,z12,ih⟩:=ZFA hd m (k + 1) (acc++ [Il nm (P k)]) (some (.int k)) y6 y7 y8 y9 y10 y11 y12 (by lia) (by simp;lia);refine ⟨z4,z6,z7,z8,z9,z10,z11,z12,?_⟩;rw [Ko,Dk];simp only [Ds,R.Di,List.set,hb,Dv];have e1:((k:Int) + 1)=((k + 1:Nat):Int):=by lia
  rw [e1,ih];simp [List.range'_succ]
structure Told (h:Hs) (yr:Int):Prop where
 good:GoodH h
 one:1<=h.n
 ey:h.yr=yr
 ok:∃nm:Nat->Str,∀k,k < h.n->PlOk yr nm h.n k (h.pl k)
theorem ZI9:∃n:Nat,1<=n/\n<=12/\(n:Int)=if c / 5 % 8=1 then 6 + c / 40 % 7 else 1 + c % 5:=by
 by_cases h:c / 5 % 8=1
 ·exact ⟨(6 + c / 40 % 7).toNat,by lia,by lia,by rw [if_pos h];lia⟩
 ·exact ⟨(1 + c % 5).toNat,by lia,by lia,by rw [if_neg h];lia⟩
theorem ZLt (hf:∀k:Nat,k<=1000->∀G,Bg [.fl (ns.map D.int),.int k] G=.ok (.int (f k)) G) (hyr:1<=yr/\yr<=24) (cy:∀G,K6 [.fl (ns.map D.int)] G=.ok (.int yr) G) (hu:0 < u) (cu:∀G,Gs [.fl (ns.map D.int)] G=.ok (.int u) G):
  ∃h:Hs,Told h yr/\∀G,V7 [.fl (ns.map D.int)] G=.ok h.enc G:=by
 obtain ⟨n,hn1,hn,en⟩:=ZI9 (c:=f 0);let nm:Nat->Str:=λk=>Em (Ge (f 5) n k)
 have ex:∀k:Nat,∃p:Pl,k < n->(PlOk yr nm n k p/\∀(G:DH) (acc:List D) (x6 x7 x8 x9 x10 x11 x12:Option D),acc.length<=20->∃y6 y7 y8 y9 y10 y11 y12,
   M6 [some (.fl (ns.map D.int)),some (.int (f 0)),some (.int n),some (.fl (Cy nm n)),some (.int k),some (.ref G.length),x6,x7,x8,x9,x10,x11,x12] (G++ [.lst acc])=
    .nx [some (.fl (ns.map D.int)),some (.int (f 0)),some (.int n),some (.fl (Cy nm n)),some (.int k),some (.ref G.length),y6,y7,y8,y9,y10,y11,y12] (G++ [.lst (acc++ [Il nm p])])):=λk=>by
  by_cases hk:k < n
  ·obtain ⟨p,hp⟩:=ZJ3 (nm:=nm) (c:=f 0) hf hyr cy hu cu hk hn;exact ⟨p,λ_=>hp⟩
  ·exact ⟨Zk,λz=>absurd z hk⟩
 let P:Nat->Pl:=λk=>(ex k).choose
 have hP:=λ(k:Nat) (hk:k < n)=>((ex k).choose_spec hk).1
 have hB:=λ(k:Nat) (hk:k < n)=>((ex k).choose_spec hk).2
 let h:Hs:=⟨yr,(List.range n).map P⟩;have hnn:h.n=n:=by simp [h,Hs.n]
 have hpl:∀k,k < n->h.pl k=P k:=λk hk=>by simp [h,Hs.pl,hk]
 have hg:GoodH h:=by
  refine ⟨?_,by lia,?_,?_,?_,?_,?_,?_,?_⟩
  ·show 0 < yr;lia
  ·intro i j hi hj e;rw [hnn] at hi hj;rw [hpl i hi,hpl j hj,(hP i hi).nm,(hP j hj).nm] at e;exact ZNk hn hi hj (ZGB e)
  ·intro i hi;rw [hnn] at hi;rw [hpl i hi,(hP i hi).nm];exact ZLH
  ·intro k d hk e;rw [hnn] at hk ⊢;rw [hpl k hk] at e;exact (hP k hk).dn d e
  ·intro k hk;rw [hnn] at hk;rw [hpl k hk];exact (hP k hk).dl
  ·intro k b r to dl m hk e;rw [hnn] at hk ⊢;rw [hpl k hk] at e;exact ((hP k hk).basin _ _ _ e).2.2 to dl m rfl
  ·intro k b r q hk e;rw [hnn] at hk;rw [hpl k hk] at e;have:=(hP k hk).basin _ _ _ e;exact ⟨this.1,λs hs=>(this.2.1.good s hs).1⟩
  ·intro k a b hk e;rw [hnn] at hk;rw [hpl k hk] at e;exact (hP k hk).town _ _ e
 refine ⟨h,⟨hg,by lia,rfl,nm,λk hk=>by rw [hnn] at hk ⊢;rw [hpl k hk];exact hP k hk⟩,λG=> ?_⟩;have hdT:∀o:Option Nat,(∀d,o=some d->d < n)->h.dnT o=dnS nm o:=λo ho=>by
  cases o with
  | none=>rfl
  | some d=>
   show (h.pl d).nm=nm d;rw [hpl d (ho d rfl),(hP d (ho d rfl)).nm]
 have henc:h.Dh=(List.range' 0 n).map λi=>Il nm (P i):=by
  show ((List.range n).map P).map h.encP=_;rw [List.map_map,List.range_eq_range'];refine List.map_congr_left λk hk=> ?_
  have hk':k < n:=by have:=List.mem_range'_1.mp hk;lia
  have ok:=hP k hk';show h.encP (P k)=Il nm (P k);have ed:=hdT (P k).dn λd e=>(ok.dn d e).2
  unfold Hs.encP Il;rw [ed];cases e:(P k).kd with
  | basin b r q=>
   have hq:=(ok.basin b r q e).2.2;cases q with
   | none=>rfl
   | some q=>
    obtain ⟨to,dl,m⟩:=q;have ht:=(hq to dl m rfl).1;have e2:(h.pl to).nm=nm to:=by rw [hpl to ht,(hP to ht).nm]
    simp [Hs.Ny,Jw,e2]
  | town a b=>rfl
  | mill a=>rfl
 obtain ⟨y4,y6,y7,y8,y9,y10,y11,y12,hL⟩:=ZFA (G:=G) (P:=P) (nm:=nm) (c:=f 0) (n:=n) (ns:=ns) (λk hk=>hB k hk G) n 0 [] none none none none none none none none (by lia) (by simp;lia);rw [<-henc] at hL;have hL':Bh (gV 4) M6 (Cq 0 n) [some (.fl (ns.map D.int)),some (.int (f 0)),some (.int n),some (.fl (Cy nm n)),none,some (.ref G.length),none,none,none,none,none,none,none] (G++ [.lst []])=
    .nx [some (.fl (ns.map D.int)),some (.int (f 0)),some (.int n),some (.fl (Cy nm n)),y4,some (.ref G.length),y6,y7,y8,y9,y10,y11,y12] (G++ [.lst h.Dh]):=hL
 have f0:∀G,Bg [.fl (ns.map D.int),.int 0] G=.ok (.int (f 0)) G:=hf 0 (by lia);have f5:∀G,Bg [.fl (ns.map D.int),.int 5] G=.ok (.int (f 5)) G:=hf 5 (by lia);have cp:∀G:DH,Eb (gV 0) Ce ZBH [none,some (.fl (ns.map D.int)),some (.int n)] (Cq 0 n) G=.ok (Cy nm n) G:=λG=>Vy λk hk=>by unfold ZBH;simp [f5,ZKR hn hk,nm]
 have fz:freeze G (.ok (.ref G.length) (G++ [.lst (Cy nm n)]))=.ok (.fl (Cy nm n)) G:=Gy ZNX;have hr:inR (n:Int):=Hz (by lia) (by lia);have hnl:n<=1000000:=by lia
 have eh:h.enc=.tup [.int yr,.tup h.Dh]:=rfl;unfold V7 ZEi;rw [Br];by_cases hw:f 0 / 5 % 8=1
 ·rw [if_pos hw] at en;simp [Ti,hnl,f0,hw,<-en,hr,Bf,cp,fz,Ar,Fv,hL',cy,Dq,Bq,Qu,eh]
 ·rw [if_neg hw] at en;simp [Ti,hnl,f0,hw,<-en,hr,Bf,cp,fz,Ar,Fv,hL',cy,Dq,Bq,Qu,eh]
noncomputable def thr (c:Int):Nat->Int
 | 0=>c
 | j + 1=>thr (c / 3) j
theorem ZI6 {s0 s1 s2 s4 s5 s6 s7 s8:Option D} (G:DH):
  ∃y,Bh (gV 11) Rp (Cq 0 5) [s0,s1,s2,some (.int u),s4,s5,s6,s7,s8,some (.int c),some (.ref G.length),x] (G++ [.lst []])=.nx [s0,s1,s2,some (.int u),s4,s5,s6,s7,s8,y,some (.ref G.length),some (.int 4)] (G++ [.lst (tab 5 λj=>u * (thr c j % 3))]):=by
 have hb:∀(c:Int) (acc:List D) (x:Option D),acc.length<=10->Rp [s0,s1,s2,some (.int u),s4,s5,s6,s7,s8,some (.int c),some (.ref G.length),x] (G++ [.lst acc])=.nx [s0,s1,s2,some (.int u),s4,s5,s6,s7,s8,some (.int (c / 3)),some (.ref G.length),x] (G++ [.lst (acc++ [.int (u * (c % 3))])]):=λc acc x ha=>by
  have m:∀G,Bs (.int u) (.int (c % 3)) G=.ok (.int (u * (c % 3))) G:=λG=>Mi (by lia) (by lia)
  have hal:acc.length < 1000000:=by lia
  unfold Rp ZHG;simp [m,Dq,Fb,hal]
 have e:Cq 0 5= [.int 0,.int 1,.int 2,.int 3,.int 4]:=rfl;refine ⟨some (.int (c / 3 / 3 / 3 / 3 / 3)),?_⟩;rw [e];simp only [Dk,Ed,Ds,R.Di,List.set,Dv];rw [hb _ _ _ (by simp)];simp only [Dv,Dk,Ed,Ds,R.Di,List.set];rw [hb _ _ _ (by simp)];simp only [Dv,Dk,Ed,Ds,R.Di,List.set];rw [hb _ _ _ (by simp)];simp only [Dv,Dk,Ed,Ds,R.Di,List.set];rw [hb _ _ _ (by simp)];simp only [Dv,Dk,Ed,Ds,R.Di,List.set];rw [hb _ _ _ (by simp)]
 simp only [Dv,Dk,Ed,Ds,R.Di,List.set];simp [tab5,thr]
noncomputable def lvS (h:Hs) (f:Nat->Int) (u:Int) (k:Nat):Int:=match (h.pl k).kd with
 | .basin b _ _=>amt (f (6 + 12 * h.n + k)) u % (b + 1)
 | _=>0
noncomputable def coS (h:Hs) (f:Nat->Int) (u:Int) (k j:Nat):Int:=u * (thr (f (6 + 12 * h.n + h.n + k)) j % 3)
theorem ZO0 (hu:0 < u) (k j:Nat):0<=coS h f u k j:=Int.mul_nonneg (by lia) (by lia)
theorem ZF0 (g:GoodH h) (hk:k < h.n):0<=lvS h f u k/\(∀b r q,(h.pl k).kd=.basin b r q->lvS h f u k<=b)/\((h.pl k).kd.isB=false->lvS h f u k=0):=by
 unfold lvS;cases e:(h.pl k).kd with
 | basin b r q=>
  have:=(g.brim k b r q hk e).1
  refine ⟨Int.emod_nonneg _ (by lia),λb' r' q' e'=> ?_,λz=>nomatch z⟩
  cases e';show amt (f (6 + 12 * h.n + k)) u % (b + 1)<=b;have:=Int.emod_lt_of_pos (amt (f (6 + 12 * h.n + k)) u) (show 0 < b + 1 by lia);lia
 | town a b=>exact ⟨Int.le_refl _,(λ_ _ _ z=>nomatch z),λ_=>rfl⟩
 | mill a=>exact ⟨Int.le_refl _,(λ_ _ _ z=>nomatch z),λ_=>rfl⟩
theorem ZG4 (hf:∀k:Nat,k<=1000->∀G,Bg [.fl (ns.map D.int),.int k] G=.ok (.int (f k)) G) {u:Int} (hu:0 < u) (g:GoodH h) {s1:Option D} {G:DH}:∀(m k:Nat) (L:DH) (x7 x8 x9 x10 x11:Option D),k + m=h.n->∃L' y7 y8 y9 y10 y11,
  Bh (gV 7) Rc (Cq k m) [some (.fl (ns.map D.int)),s1,some (.tup h.Dh),some (.int u),some (.int ((6 + 12 * h.n:Nat):Int)),some (.ref G.length),some (.ref (G.length + 1)),x7,x8,x9,x10,x11] (G++ .lst (tab k (lvS h f u)):: .lst (Ci k (coS h f u))::L)=
   .nx [some (.fl (ns.map D.int)),s1,some (.tup h.Dh),some (.int u),some (.int ((6 + 12 * h.n:Nat):Int)),some (.ref G.length),some (.ref (G.length + 1)),y7,y8,y9,y10,y11] (G++ .lst (tab h.n (lvS h f u)):: .lst (Ci h.n (coS h f u))::L')
 | 0,k,L,x7,x8,x9,x10,x11,e=>by
  have e1:k=h.n:=by lia
  subst e1;exact ⟨L,x7,x8,x9,x10,x11,by rw [Lz,Ed]⟩
 | m + 1,k,L,x7,x8,x9,x10,x11,e=>by
  have hk:k < h.n:=by lia
  have hn:=g.len;let c:Int:=f (6 + 12 * h.n + h.n + k);let G1:DH:=G++ .lst (tab (k + 1) (lvS h f u)):: .lst (Ci k (coS h f u))::L;obtain ⟨y,hR⟩:=ZI6 (u:=u) (c:=c) (s0:=some (.fl (ns.map D.int))) (s1:=s1) (s2:=some (.tup h.Dh)) (s4:=some (.int ((6 + 12 * h.n:Nat):Int))) (s5:=some (.ref G.length)) (s6:=some (.ref (G.length + 1))) (s7:=some (.int k)) (s8:=some (.int (lvS h f u k))) (x:=x11) G1;obtain ⟨L',y7,y8,y9,y10,y11,ih⟩:=ZG4 hf hu g m (k + 1) (L++ [.lst (tab 5 (coS h f u k))]) (s1:=s1) (G:=G) (some (.int k)) (some (.int (lvS h f u k))) y (some (.ref G1.length)) (some (.int 4)) (by lia)
  refine ⟨L',y7,y8,y9,y10,y11,?_⟩;have ap:atI h.Dh (k:Int)=some (h.encP (h.pl k)):=Hs.Ey hk;have c1:∀G,Bg [.fl (ns.map D.int),.int (((6 + 12 * h.n:Nat):Int) + (k:Int))] G=.ok (.int (f (6 + 12 * h.n + k))) G:=λG=>by have:=hf (6 + 12 * h.n + k) (by lia) G;rwa [show ((6 + 12 * h.n + k:Nat):Int)=((6 + 12 * h.n:Nat):Int) + k by lia] at this
  have c2:∀G,Bg [.fl (ns.map D.int),.int (((6 + 12 * h.n:Nat):Int) + (h.n:Int) + (k:Int))] G=.ok (.int c) G:=λG=>by have:=hf (6 + 12 * h.n + h.n + k) (by lia) G;rwa [show ((6 + 12 * h.n + h.n + k:Nat):Int)=((6 + 12 * h.n:Nat):Int) + h.n + k by lia] at this
  have hbb:(6 + 12 * h.n:Nat)=(6 + 12 * h.n):=rfl;generalize hB:((6 + 12 * h.n:Nat):Int)=B at c1 c2 hR ih ⊢;have t1:∀(H:DH) (x9 x10 x11:Option D),Rc [some (.fl (ns.map D.int)),s1,some (.tup h.Dh),some (.int u),some (.int B),some (.ref G.length),some (.ref (G.length + 1)),some (.int k),x8,x9,x10,x11] H=Vb [some (.fl (ns.map D.int)),s1,some (.tup h.Dh),some (.int u),some (.int B),some (.ref G.length),some (.ref (G.length + 1)),some (.int k),some (.int (lvS h f u k)),x9,x10,x11] H:=λH x9 x10 x11=>by
   unfold Rc ZD3 lvS;cases e:(h.pl k).kd with
   | basin b r q=>
    have hb0:=(g.brim k b r q hk e).1;have e4:∀G,Aj (h.encP (h.pl k)) (.int 4) G=.ok (.int b) G:=λG=>by unfold Hs.encP;rw [e];simp
    have hb1:0 < b + 1:=by lia
    have hb2:¬b + 1=0:=by lia
    simp [ap,Iu,e,Kd.isB,c1,O1 hu,e4,hb1,hb2]
   | town a b=>simp [ap,Iu,e,Kd.isB]
   | mill a=>simp [ap,Iu,e,Kd.isB]
  have hl1:k < 1000000:=by lia
  have et:tab k (lvS h f u)++ [.int (lvS h f u k)]=tab (k + 1) (lvS h f u):=by simp [tab,List.range_succ]
  have er:Ci k (coS h f u)++ [.tup (tab 5 (coS h f u k))]=Ci (k + 1) (coS h f u):=by simp [Ci,List.range_succ]
  have t2:Vb [some (.fl (ns.map D.int)),s1,some (.tup h.Dh),some (.int u),some (.int B),some (.ref G.length),some (.ref (G.length + 1)),some (.int k),some (.int (lvS h f u k)),x9,x10,x11] (G++ .lst (tab k (lvS h f u)):: .lst (Ci k (coS h f u))::L)=Ux [some (.fl (ns.map D.int)),s1,some (.tup h.Dh),some (.int u),some (.int B),some (.ref G.length),some (.ref (G.length + 1)),some (.int k),some (.int (lvS h f u k)),some (.int c),some (.ref G1.length),x11] (G1++ [.lst []]):=by
   have tn:tidy G1 (.ok (.ref G1.length) (G1++ [.lst []]))=.ok (.ref G1.length) (G1++ [.lst []]):=Fv rfl;unfold Vb ZES ZGn;have a1:(sEx (G8 Fy (dV 5) (Ab (dV 8) Ae))) [some (.fl (ns.map D.int)),s1,some (.tup h.Dh),some (.int u),some (.int B),some (.ref G.length),some (.ref (G.length + 1)),some (.int k),some (.int (lvS h f u k)),x9,x10,x11] (G++ .lst (tab k (lvS h f u)):: .lst (Ci k (coS h f u))::L)=.nx [some (.fl (ns.map D.int)),s1,some (.tup h.Dh),some (.int u),some (.int B),some (.ref G.length),some (.ref (G.length + 1)),some (.int k),some (.int (lvS h f u k)),x9,x10,x11] G1:=by
    simp [Dq,Fb,hl1,et,G1]
   rw [X4,a1,Ud]
   clear_value G1
   simp [Hs.Lx,c2,Ar,tn]
  have t5:Ux [some (.fl (ns.map D.int)),s1,some (.tup h.Dh),some (.int u),some (.int B),some (.ref G.length),some (.ref (G.length + 1)),some (.int k),some (.int (lvS h f u k)),some (.int c),some (.ref G1.length),x11] (G1++ [.lst []])=.nx [some (.fl (ns.map D.int)),s1,some (.tup h.Dh),some (.int u),some (.int B),some (.ref G.length),some (.ref (G.length + 1)),some (.int k),some (.int (lvS h f u k)),y,some (.ref G1.length),some (.int 4)] (G++ .lst (tab (k + 1) (lvS h f u)):: .lst (Ci (k + 1) (coS h f u))::(L++ [.lst (tab 5 (coS h f u k))])):=by
   have hr:inR 5:=Hz (by lia) (by lia);have eC:(tab 5 λj=>u * (thr c j % 3))=tab 5 (coS h f u k):=rfl;rw [eC] at hR;unfold Ux;have a1:(Du (Dl rng1 (Ab (dC (.int 5)) Ae)) (gV 11) Rp) [some (.fl (ns.map D.int)),s1,some (.tup h.Dh),some (.int u),some (.int B),some (.ref G.length),some (.ref (G.length + 1)),some (.int k),some (.int (lvS h f u k)),some (.int c),some (.ref G1.length),x11] (G1++ [.lst []])=.nx [some (.fl (ns.map D.int)),s1,some (.tup h.Dh),some (.int u),some (.int B),some (.ref G.length),some (.ref (G.length + 1)),some (.int k),some (.int (lvS h f u k)),y,some (.ref G1.length),some (.int 4)] (G1++ [.lst (tab 5 (coS h f u k))]):=by
    simp [hr,hR]
   rw [X4,a1,Ud];have gl:(G1++ [DO.lst (tab 5 (coS h f u k))])[G1.length]? =some (.lst (tab 5 (coS h f u k))):=by simp
   have gc:(G1++ [DO.lst (tab 5 (coS h f u k))])[G.length + 1]? =some (.lst (Ci k (coS h f u))):=by simp [G1]
   have gs:(G1++ [DO.lst (tab 5 (coS h f u k))]).set (G.length + 1) (.lst (Ci (k + 1) (coS h f u)))=(G++ .lst (tab (k + 1) (lvS h f u)):: .lst (Ci (k + 1) (coS h f u))::(L++ [.lst (tab 5 (coS h f u k))])):=by simp [G1]
   generalize G1++ [DO.lst (tab 5 (coS h f u k))]=G2 at gl gc gs;unfold ZF5;simp [gl,gc,hl1,er,gs]
  rw [Ko,Dk];simp only [Ds,R.Di,List.set,t1,t2,t5,Dv];have e1:((k:Int) + 1)=((k + 1:Nat):Int):=by lia
  rw [e1,ih]
theorem ZLn (hf:∀k:Nat,k<=1000->∀G,Bg [.fl (ns.map D.int),.int k] G=.ok (.int (f k)) G) (hu:0 < u) (cu:∀G,Gs [.fl (ns.map D.int)] G=.ok (.int u) G) (g:GoodH h) (G:DH):
  V8 [.fl (ns.map D.int),h.enc] G=.ok (stD h.n (lvS h f u) (coS h f u)) G:=by
 obtain ⟨L',y7,y8,y9,y10,y11,hL⟩:=ZG4 hf hu g (s1:=some h.enc) (G:=G) h.n 0 [] none none none none none (by lia);have hL':Bh (gV 7) Rc (Cq 0 h.n) [some (.fl (ns.map D.int)),some h.enc,some (.tup h.Dh),some (.int u),some (.int ((6 + 12 * h.n:Nat):Int)),some (.ref G.length),some (.ref (G.length + 1)),none,none,none,none,none] (G++ [.lst [],.lst []])=
   .nx [some (.fl (ns.map D.int)),some h.enc,some (.tup h.Dh),some (.int u),some (.int ((6 + 12 * h.n:Nat):Int)),some (.ref G.length),some (.ref (G.length + 1)),y7,y8,y9,y10,y11] (G++ .lst (tab h.n (lvS h f u)):: .lst (Ci h.n (coS h f u))::L'):=hL
 have hn:=g.len;have m12:∀G,Bs (.int 12) (.int (h.n:Int)) G=.ok (.int (12 * (h.n:Int))) G:=λG=>Kr (by lia) (by lia)
 have e6:(6 + 12 * (h.n:Int))=((6 + 12 * h.n:Nat):Int):=by lia
 generalize hB:((6 + 12 * h.n:Nat):Int)=B at hL' e6;have fu:freeze G (.ok (.int u) G)=.ok (.int u) G:=Pa rfl;have hr:inR (h.n:Int):=Hz (by lia) (by lia);have t1:tidy (G++ [.lst []]) (.ok (.ref (G.length + 1)) (G++ [.lst [],.lst []]))=.ok (.ref (G.length + 1)) (G++ [.lst [],.lst []]):=by have:=Fv (G:=G++ [.lst []]) (ds:= []) (L:= []) rfl;simpa using this
 have g0:(G++ .lst (tab h.n (lvS h f u)):: .lst (Ci h.n (coS h f u))::L')[G.length]? =some (.lst (tab h.n (lvS h f u))):=by simp
 have g1:(G++ .lst (tab h.n (lvS h f u)):: .lst (Ci h.n (coS h f u))::L')[G.length + 1]? =some (.lst (Ci h.n (coS h f u))):=by simp
 have tp:tidy G (.ok (stD h.n (lvS h f u) (coS h f u)) (G++ .lst (tab h.n (lvS h f u)):: .lst (Ci h.n (coS h f u))::L'))=.ok (stD h.n (lvS h f u) (coS h f u)) G:=Qu (by simp [stD,Ml]);generalize G++DO.lst (tab h.n (lvS h f u))::DO.lst (Ci h.n (coS h f u))::L'=G2 at hL' g0 g1 tp;unfold stD at tp ⊢;unfold V8 ZHL;rw [Br];simp [Dm,cu,fu,Hs.Lx,m12,e6,Ar,Fv,t1,hr,hL',g0,g1,Bq,tp]
noncomputable def flS (n:Nat) (f:Nat->Int) (u:Int) (i k:Nat):Int:=amt (f (6 + 14 * n + i * n + k)) u
theorem ZMn {n:Nat} (hu:0 < u) (i k:Nat):0<=flS n f u i k:=Uj hu
noncomputable def Dy (n:Nat) (fls:List (Nat->Int)):List D:=fls.map λfl=>.tup (tab n fl)
@[simp] theorem ZJR {n:Nat} :bels m (Dy n fls)=true:=G7 λ_ _=>by simp
theorem ZF7 {o:DO} (h:∀m,bels m ds=true):freeze (G++ [o]) (.ok (.ref (G.length + 1)) (G++ [o,.lst ds]))=.ok (.fl ds) (G++ [o]):=by have:=Gy (G:=G++ [o]) (ds:=ds) (L:= []) (h _);simpa using this
theorem ZN5 (hf:∀k:Nat,k<=1000->∀G,Bg [.fl (ns.map D.int),.int k] G=.ok (.int (f k)) G) (hu:0 < u) (cu:∀G,Gs [.fl (ns.map D.int)] G=.ok (.int u) G) {n:Nat} (hi:6 + 14 * n + i * n + n<=1000) (hi2:i<=1000) (hn2:n<=1000) {s1 s2:Option D} {acc:List D} (ha:acc.length<=1000) (G:DH):
  T4 [some (.fl (ns.map D.int)),s1,s2,some (.int n),some (.int ((6 + 14 * n:Nat):Int)),some (.ref G.length),some (.int i),x] (G++ [.lst acc])=
   .nx [some (.fl (ns.map D.int)),s1,s2,some (.int n),some (.int ((6 + 14 * n:Nat):Int)),some (.ref G.length),some (.int i),some (.fl (tab n λk=>f (6 + 14 * n + i * n + k)))] (G++ [.lst (acc++ [.tup (tab n (flS n f u i))])]):=by
 have hal:acc.length < 1000000:=by lia
 have mi:∀G,Bs (.int (i:Int)) (.int (n:Int)) G=.ok (.int ((i:Int) * n)) G:=λG=>Kr (by lia) (by lia)
 have fu:∀G,freeze G (.ok (.int u) G)=.ok (.int u) G:=λG=>Pa rfl
 have c1:∀G,Eb (gV 0) Ce ZBO [none,some (.fl (ns.map D.int)),some (.int n),some (.int ((6 + 14 * n:Nat):Int)),some (.int i)] (Cq 0 n) G=.ok (tab n λk=>f (6 + 14 * n + i * n + k)) G:=λG=>
  Vy (F:=λk=>.int (f (6 + 14 * n + i * n + k))) λk hk=>by
   have h1:=hf (6 + 14 * n + i * n + k) (by lia) G;have e1:((6 + 14 * n + i * n + k:Nat):Int)=((6 + 14 * n:Nat):Int) + (i:Int) * n + k:=by rw [Int.natCast_add,Int.natCast_add,Int.natCast_mul]
   rw [e1] at h1;generalize ((6 + 14 * n:Nat):Int)=B at h1;unfold ZBO;simp [mi,h1]
 have c2:∀G,Eb (gV 0) Ce ZCa [none,some (.fl (ns.map D.int))] (tab n λk=>f (6 + 14 * n + i * n + k)) G=.ok (tab n (flS n f u i)) G:=λG=>
  Oo (E:=λk=>.int (f (6 + 14 * n + i * n + k))) (F:=λk=>.int (flS n f u i k)) λk hk=>by unfold ZCa;simp [cu,fu,O1 hu,flS]
 have hr:inR (n:Int):=Hz (by lia) (by lia);have cs1:∀a b c d e f' g h:Option D,Bf 1 [0,3,4,6] [a,b,c,d,e,f',g,h]= [none,a,d,e,g]:=λ_ _ _ _ _ _ _ _=>rfl
 have cs2:∀a b c d e f' g h:Option D,Bf 1 [0] [a,b,c,d,e,f',g,h]= [none,a]:=λ_ _ _ _ _ _ _ _=>rfl
 have fz1:=ZF7 (G:=G) (o:=.lst acc) (ds:=tab n λk=>f (6 + 14 * n + i * n + k)) λ_=>Ml
 have fz2:=ZF7 (G:=G) (o:=.lst acc) (ds:=tab n (flS n f u i)) λ_=>Ml
 generalize ((6 + 14 * n:Nat):Int)=B at c1;have hnl:n<=1000000:=by lia
 unfold T4;simp [hnl,hr,cs1,cs2,c1,c2,fz1,fz2,Dq,Fb,hal]
theorem ZDA (hf:∀k:Nat,k<=1000->∀G,Bg [.fl (ns.map D.int),.int k] G=.ok (.int (f k)) G) (hu:0 < u) (cu:∀G,Gs [.fl (ns.map D.int)] G=.ok (.int u) G) {n t:Nat} (ht:6 + 14 * n + t * n<=1000) (ht2:t<=100) (hn2:n<=1000) {s1 s2:Option D} (G:DH):∀(m i:Nat) (x6 x7:Option D),i + m=t->∃y6 y7,
  Bh (gV 6) T4 (Cq i m) [some (.fl (ns.map D.int)),s1,s2,some (.int n),some (.int ((6 + 14 * n:Nat):Int)),some (.ref G.length),x6,x7] (G++ [.lst (Dy n ((List.range i).map (flS n f u)))])=
   .nx [some (.fl (ns.map D.int)),s1,s2,some (.int n),some (.int ((6 + 14 * n:Nat):Int)),some (.ref G.length),y6,y7] (G++ [.lst (Dy n ((List.range t).map (flS n f u)))])
 | 0,i,x6,x7,e=>by
  have e1:i=t:=by lia
  subst e1;exact ⟨x6,x7,by rw [Lz,Ed]⟩
 | m + 1,i,x6,x7,e=>by
  obtain ⟨y6,y7,ih⟩:=ZDA hf hu cu ht ht2 hn2 (s1:=s1) (s2:=s2) G m (i + 1) (some (.int i)) (some (.fl (tab n λk=>f (6 + 14 * n + i * n + k)))) (by lia);refine ⟨y6,y7,?_⟩;have hm:(i + 1) * n<=t * n:=Nat.mul_le_mul_right n (by lia);have hm2:(i + 1) * n=i * n + n:=Nat.succ_mul i n;have hb:=ZN5 hf hu cu (n:=n) (i:=i) (by lia) (by lia) hn2 (s1:=s1) (s2:=s2) (x:=x7) (acc:=Dy n ((List.range i).map (flS n f u))) (by simp [Dy];lia) G
  have ea:Dy n ((List.range i).map (flS n f u))++ [.tup (tab n (flS n f u i))]=Dy n ((List.range (i + 1)).map (flS n f u)):=by simp [Dy,List.range_succ]
  rw [ea] at hb;rw [Ko,Dk];simp only [Ds,R.Di,List.set,hb,Dv];have e1:((i:Int) + 1)=((i + 1:Nat):Int):=by lia
  rw [e1,ih]
theorem ZIn (hf:∀k:Nat,k<=1000->∀G,Bg [.fl (ns.map D.int),.int k] G=.ok (.int (f k)) G) (hu:0 < u) (cu:∀G,Gs [.fl (ns.map D.int)] G=.ok (.int u) G) (g:GoodH h) {t:Nat} (ht:6 + 14 * h.n + t * h.n<=1000) (ht2:t<=100) (G:DH):
  Vr [.fl (ns.map D.int),h.enc,.int t] G=.ok (.ref G.length) (G++ [.lst (Dy h.n ((List.range t).map (flS h.n f u)))]):=by
 have hn:=g.len;obtain ⟨y6,y7,hL⟩:=ZDA hf hu cu ht ht2 (by lia) (s1:=some h.enc) (s2:=some (.int t)) G t 0 none none (by lia);have hL':Bh (gV 6) T4 (Cq 0 t) [some (.fl (ns.map D.int)),some h.enc,some (.int t),some (.int h.n),some (.int ((6 + 14 * h.n:Nat):Int)),some (.ref G.length),none,none] (G++ [.lst []])=
   .nx [some (.fl (ns.map D.int)),some h.enc,some (.int t),some (.int h.n),some (.int ((6 + 14 * h.n:Nat):Int)),some (.ref G.length),y6,y7] (G++ [.lst (Dy h.n ((List.range t).map (flS h.n f u)))]):=hL
 have m14:∀G,Bs (.int 14) (.int (h.n:Int)) G=.ok (.int (14 * (h.n:Int))) G:=λG=>Kr (by lia) (by lia)
 have e6:(6 + 14 * (h.n:Int))=((6 + 14 * h.n:Nat):Int):=by lia
 generalize hB:((6 + 14 * h.n:Nat):Int)=B at hL' e6;have hr:inR (t:Int):=Hz (by lia) (by lia);unfold Vr ZGQ;rw [Br];simp [Dm,Hs.Lx,m14,e6,Ar,Fv,hr,hL']
theorem ZL0 (hf:∀k:Nat,k<=1000->∀G,Bg [.fl (ns.map D.int),.int k] G=.ok (.int (f k)) G):∃a:Int,0<=a/\∀G,Rw [.fl (ns.map D.int)] G=.ok (.int a) G:=by
 have h3:∀G,Bg [.fl (ns.map D.int),.int 3] G=.ok (.int (f 3)) G:=hf 3 (by lia);have fz:∀G:DH,freeze G (.ok (.ref G.length) (G++ [.lst [.int 50,.int 1000000000000000000000000000000000000000]]))=.ok (.fl [.int 50,.int 1000000000000000000000000000000000000000]) G:=λG=>Gy rfl
 rcases (by lia:f 3 % 2=0∨f 3 % 2=1) with z | z
 ·refine ⟨f 3 / 2 % 50,by lia,λG=> ?_⟩;unfold Rw Z9;rw [Br];simp [h3,z,Ar,fz,Bx]
 ·refine ⟨f 3 / 2 % 1000000000000000000000000000000000000000,by lia,λG=> ?_⟩;unfold Rw Z9;rw [Br];simp [h3,z,Ar,fz,Bx]
noncomputable abbrev St2:=(Nat->Int)×(Nat->Nat->Int)
noncomputable def Hs.nxt (h:Hs) (s:St2) (a:Int) (fl:Nat->Int):St2:=(lies (h.cs s.1 s.2 a fl).page,(h.cs s.1 s.2 a fl).coming)
noncomputable def Hs.El (h:Hs):List (Nat->Int)->St2->Int->St2
 | [],s,_=>s
 | fl::r,s,a=>h.El r (h.nxt s a fl) (a + 1)
noncomputable def Hs.Ga (h:Hs):List (Nat->Int)->St2->Int->List (Nat->List Int)
 | [],_,_=> []
 | fl::r,s,a=>(h.cs s.1 s.2 a fl).page::h.Ga r (h.nxt s a fl) (a + 1)
theorem ZGz:∀{fls:List (Nat->Int)} {s:St2} {a:Int},(h.Ga fls s a).length=fls.length
 | [],_,_=>rfl
 | fl::r,s,a=>by show (h.Ga r (h.nxt s a fl) (a + 1)).length + 1=r.length + 1;rw [ZGz]
noncomputable def pgD (n:Nat) (pg:Nat->List Int):D:=.tup (Cu n pg)
@[simp] theorem ZJP {n:Nat} :bel m (pgD n pg)=true:=by simp [pgD]
@[simp] theorem ZNR {n:Nat} {pgs:List (Nat->List Int)}:bels m (pgs.map (pgD n))=true:=G7 λ_ _=>ZJP
@[simp] theorem ZJQ {n:Nat} :bel m (stD n lv co)=true:=by simp [stD]
theorem Yw (g:GoodH h) (hc:∀k j,k < h.n->j < 5->0<=co k j) (hf:∀k,k < h.n->0<=fl k):(h.cs lv co a fl).NN h.n:=ZFF g h.n 0 _ (by lia) (ZDM hc hf)
noncomputable def enS:Int->List D->List D
 | _,[]=> []
 | a,x::r=>.tup [.int a,x]::enS (a + 1) r
theorem ZEZ:∀(xs:List D) (a:Int) (j:Nat),(enS a xs)[j]? =xs[j]?.map λx=>.tup [.int (a + j),x]
 | [],a,j=>by simp [enS]
 | x::r,a,0=>by simp [enS]
 | x::r,a,j + 1=>by
  show (enS (a + 1) r)[j]? =r[j]?.map _;rw [ZEZ r (a + 1) j];have e:a + 1 + (j:Int)=a + ((j + 1:Nat):Int):=by lia
  rw [e]
theorem ZFz:∀(xs:List D) (a:Int),(enS a xs).length=xs.length
 | [],a=>rfl
 | x::r,a=>by show (enS (a + 1) r).length + 1=r.length + 1;rw [ZFz]
theorem ZID {g:DG} {b:DS} {xs:List D} :Ei (Er a (.fl xs)) g b xs.length 0 S G=Bh g b (enS a xs) S G:=Rr (λj G=>by show some (xs[j]?.map _)=_;rw [ZEZ]) (ZFz xs a).symm
theorem ZC7 (g:GoodH h) {s2 s3:Option D} {G:DH}:∀(fls:List (Nat->Int)) (s:St2) (a:Int) (acc:List D) (x5 x6 x7:Option D),acc.length + fls.length<=1000->(∀k j,k < h.n->j < 5->0<=s.2 k j)->(∀fl∈fls,∀k,k < h.n->0<=fl k)->∃y5 y6 y7,
  Bh (Bw 2 (Aq (gV 5) (Aq (gV 6) Cg))) Rf (enS a (Dy h.n fls)) [some h.enc,some (stD h.n s.1 s.2),s2,s3,some (.ref G.length),x5,x6,x7] (G++ [.lst acc])=
   .nx [some h.enc,some (stD h.n (h.El fls s a).1 (h.El fls s a).2),s2,s3,some (.ref G.length),y5,y6,y7] (G++ [.lst (acc++(h.Ga fls s a).map (pgD h.n))])
 | [],s,a,acc,x5,x6,x7,_,_,_=>⟨x5,x6,x7,by show Bh _ _ [] _ _=_;rw [Ed];simp [Hs.El,Hs.Ga]⟩
 | fl::r,s,a,acc,x5,x6,x7,hl,hc,hf=>by
  have hf1:=hf fl (by simp);have nn:=Yw g (lv:=s.1) (fl:=fl) (co:=s.2) (a:=a) hc hf1;simp only [List.length_cons] at hl;obtain ⟨y5,y6,y7,ih⟩:=ZC7 g (s2:=s2) (s3:=s3) (G:=G) r (h.nxt s a fl) (a + 1) (acc++ [pgD h.n (h.cs s.1 s.2 a fl).page]) (some (.int a)) (some (.tup (tab h.n fl))) (some (pgD h.n (h.cs s.1 s.2 a fl).page)) (by simp;lia) nn.2 (λf' hf'=>hf f' (List.mem_cons_of_mem _ hf'));refine ⟨y5,y6,y7,?_⟩
  have ct:=ZNA g (lv:=s.1) (fl:=fl) (co:=s.2) (at_:=a) hc hf1;have hal:acc.length < 1000000:=by lia
  have hb:Rf [some h.enc,some (stD h.n s.1 s.2),s2,s3,some (.ref G.length),some (.int a),some (.tup (tab h.n fl)),x7] (G++ [.lst acc])=.nx [some h.enc,some (stD h.n (h.nxt s a fl).1 (h.nxt s a fl).2),s2,s3,some (.ref G.length),some (.int a),some (.tup (tab h.n fl)),some (pgD h.n (h.cs s.1 s.2 a fl).page)] (G++ [.lst (acc++ [pgD h.n (h.cs s.1 s.2 a fl).page])]):=by unfold Rf;simp [ct,Dq,Fb,hal,pgD,Hs.nxt]
  show Bh _ _ (.tup [.int a,.tup (tab h.n fl)]::enS (a + 1) (Dy h.n r)) _ _=_;rw [Dk];simp only [T3,Tr,Sy,Ds,R.Kv,R.Di,List.set,hb,Dv,List.length_cons,List.length_nil,Nat.reduceAdd,if_true];rw [ih];simp [Hs.El,Hs.Ga]
theorem ZJK {n:Nat} :(Dy n fls).length=fls.length:=by simp [Dy]
theorem ZPv {G':DH} (h:bels G.length ds=false):tidy G (.ok (.tup ds) G')=.ok (.tup ds) G':=by unfold tidy;simp [h]
theorem ZM6 {e:D} (h1:bels G.length ds=true) (h2:bel G.length e=true):freeze G (.ok (.tup [.ref G.length,e]) (G++ [.lst ds]))=.ok (.tup [.fl ds,e]) G:=by
 unfold freeze;have m:Gd (G++ [.lst ds]) G.length 9 (.tup [.ref G.length,e])=some (.tup [.fl ds,e]):=by
  unfold Gd;have m1:Gd (G++ [.lst ds]) G.length 8 (.ref G.length)=some (.fl ds):=by unfold Gd;simp [Yy h1]
  have m2:Gd (G++ [.lst ds]) G.length 8 e=some e:=by unfold Gd;simp [h2]
  simp [Kq,m1,m2]
 simp [m]
theorem ZJe (g:GoodH h) {s:St2} (hl:fls.length<=1000) (hc:∀k j,k < h.n->j < 5->0<=s.2 k j) (hf:∀fl∈fls,∀k,k < h.n->0<=fl k) (G:DH):
  Xg [h.enc,stD h.n s.1 s.2,.int a,.fl (Dy h.n fls)] G=.ok (.tup [.ref G.length,stD h.n (h.El fls s a).1 (h.El fls s a).2]) (G++ [.lst ((h.Ga fls s a).map (pgD h.n))]):=by
 obtain ⟨y5,y6,y7,hL⟩:=ZC7 g (s2:=some (.int a)) (s3:=some (.fl (Dy h.n fls))) (G:=G) fls s a [] none none none (by simp;lia) hc hf;have hL':Ei (Er a (.fl (Dy h.n fls))) (Bw 2 (Aq (gV 5) (Aq (gV 6) Cg))) Rf (Dy h.n fls).length 0 [some h.enc,some (stD h.n s.1 s.2),some (.int a),some (.fl (Dy h.n fls)),some (.ref G.length),none,none,none] (G++ [.lst []])=
   .nx [some h.enc,some (stD h.n (h.El fls s a).1 (h.El fls s a).2),some (.int a),some (.fl (Dy h.n fls)),some (.ref G.length),y5,y6,y7] (G++ [.lst ((h.Ga fls s a).map (pgD h.n))]):=by
  rw [ZID];exact hL
 have tt:∀e:D,tidy G (.ok (.tup [.ref G.length,e]) (G++ [.lst ((h.Ga fls s a).map (pgD h.n))]))=.ok (.tup [.ref G.length,e]) (G++ [.lst ((h.Ga fls s a).map (pgD h.n))]):=λe=>ZPv (by simp)
 unfold Xg ZC9;rw [Br];simp [Ar,Fv,ZA4,hL',Bq,tt]
noncomputable def Ak:Nat->(Nat->Int)->Int
 | 0,_=>0
 | n + 1,F=>Ak n F + F n
theorem G9:∀{n:Nat} {F F':Nat->Int},(∀i,i < n->F i=F' i)->Ak n F=Ak n F'
 | 0,_,_,_=>rfl
 | n + 1,F,F',h=>by show Ak n F + F n=Ak n F' + F' n;rw [G9 λi hi=>h i (by lia),h n (by lia)]
theorem Hb:∀{n:Nat} {F F':Nat->Int},Ak n (λi=>F i + F' i)=Ak n F + Ak n F'
 | 0,_,_=>rfl
 | n + 1,F,F'=>by show Ak n (λi=>F i + F' i) + (F n + F' n)=(Ak n F + F n) + (Ak n F' + F' n);rw [Hb];lia
theorem Mu:∀{n:Nat} {F:Nat->Int},(∀i,i < n->F i=0)->Ak n F=0
 | 0,_,_=>rfl
 | n + 1,F,h=>by show Ak n F + F n=0;rw [Mu λi hi=>h i (by lia),h n (by lia)];rfl
noncomputable def By (pg:Nat->List Int) (j:Nat):Int:=(pg j).getD 2 0 + (pg j).getD 3 0
noncomputable def Es (pg:Nat->List Int) (j:Nat):Int:=(pg j).getD 4 0
noncomputable def Hs.pmp (h:Hs) (k:Nat):Option (Nat×Nat):=match (h.pl k).kd with
 | .basin _ _ (some (to,dl,_))=>some (to,dl)
 | _=>none
noncomputable def Hs.c1 (h:Hs) (pg:Nat->List Int) (i j:Nat):Int:=if h.dir j=none/\h.dn j=some i/\(h.pl j).dl=0 then By pg j else 0
noncomputable def Hs.o1 (h:Hs) (pg:Nat->List Int) (i a j:Nat):Int:=(if h.dn j=some i/\(h.pl j).dl=a + 1 then By pg j else 0) + (if h.pmp j=some (i,a + 1) then Es pg j else 0)
noncomputable def Hs.brow (h:Hs) (yt:Int) (lv:Nat->Int) (k:Nat) (c:Int):List Int:=match (h.pl k).kd with
 | .basin brim rule _=>
  let w:=lv k + c;let st:=held yt rule [];let stays:=w - rv w st - pm w st
  [c,0,stays - min stays brim,rv w st,pm w st,min stays brim]
 | _=> []
noncomputable def Hs.Ht (h:Hs) (ca:Nat->Int) (m:Nat):Nat->Int:=shr (h.rows (h.mem m) ca)
noncomputable def Hs.Gj (h:Hs) (ca:Nat->Int) (m:Nat):Nat->Int:=gath (h.rows (h.mem m) ca) λi=>col Row.water (h.rows (h.mem m) ca) i - h.Ht ca m i
theorem ZPI {ca':Nat->Int} (e:∀k∈ms,ca k=ca' k):h.rows ms ca=h.rows ms ca':=by
 unfold Hs.rows;refine List.map_congr_left λk hk=> ?_
 unfold Hs.row;rw [e k hk]
theorem ZDG:(s.send to dl c).came i=s.came i + (if to=i/\dl=0 then c else 0):=by
 unfold Cs.send;by_cases h0:dl=0
 ·simp only [h0,if_true,and_true,fset];by_cases e:i=to
  ·subst e;simp
  ·rw [if_neg e,if_neg (λz=>e z.symm)];lia
 ·simp [h0]
theorem ZDB {a:Nat}:(s.send to dl c).coming i a=s.coming i a + (if to=i/\dl=a + 1 then c else 0):=by
 unfold Cs.send;by_cases h0:dl=0
 ·simp [h0]
 ·simp only [h0,if_false,upd2];by_cases e:i=to
  ·subst e;simp only [if_true,fset,true_and];by_cases ea:a=dl - 1
   ·have e2:dl=a + 1:=by lia
    rw [if_pos ea,if_pos e2,ea]
   ·have e2:¬dl=a + 1:=by lia
    rw [if_neg ea,if_neg e2];lia
  ·rw [if_neg e,if_neg (λz=>e z.1.symm)];lia
theorem ZBJ:(h.Fo s k c).came i=s.came i + (if h.dn k=some i/\(h.pl k).dl=0 then c else 0):=by
 unfold Hs.Fo;cases e:h.dn k with
 | none=>simp
 | some d=>simp only [ZDG,Option.some.injEq]
theorem ZAr {a:Nat}:(h.Fo s k c).coming i a=s.coming i a + (if h.dn k=some i/\(h.pl k).dl=a + 1 then c else 0):=by
 unfold Hs.Fo;cases e:h.dn k with
 | none=>simp
 | some d=>simp only [ZDB,Option.some.injEq]
theorem ZFy (hB:(h.pl k).kd.isB=true):h.dir k=none:=by
 unfold Hs.dir;cases h.dn k with
 | none=>rfl
 | some d=>simp [hB]
theorem X3 (e:h.dir k=some d):h.dn k=some d/\(h.pl k).dl=0/\(h.pl k).kd.isB=false/\(h.pl d).kd.isB=false:=by
 unfold Hs.dir at e;cases hd:h.dn k with
 | none=>rw [hd] at e;cases e
 | some d'=>
  rw [hd] at e;simp only at e;split at e
  ·cases e
  ·rename_i hc;cases e;refine ⟨rfl,by lia,?_,?_⟩
   ·cases z:(h.pl k).kd.isB with
    | false=>rfl
    | true=>exact absurd (.inr (.inl z)) hc
   ·cases z:(h.pl d).kd.isB with
    | false=>rfl
    | true=>exact absurd (.inr (.inr z)) hc
theorem ZAd (hB:(h.pl k).kd.isB=false):h.pmp k=none:=by
 unfold Hs.pmp;cases e:(h.pl k).kd with
 | basin a b c=>rw [e] at hB;cases hB
 | town _ _=>rfl
 | mill _=>rfl
theorem ZPA (g:GoodH h) (e:h.last k=k):h.dir k=none:=by
 cases hd:h.dir k with
 | none=>rfl
 | some d=>
  have h1:=Kf g hd;have h2:=Jx g hd;have h3:=(Jc g d).1;lia
theorem ZJf (g:GoodH h) (hm:m < h.n) (e:h.last m=m):(h.mem m).idxOf m=(h.mem m).length - 1:=by
 have hl:=ZDr g hm e;have hpos:0 < (h.mem m).length:=List.length_pos_of_mem (mem_iff.mpr ⟨hm,e⟩);have nd:(h.mem m).Nodup:=(Rg (h:=h) (m:=m)).imp λhab=>Nat.ne_of_lt hab
 rw [List.getLast?_eq_getElem?,List.getElem?_eq_getElem (by lia)] at hl;have h2:=ZBf nd (i:=(h.mem m).length - 1) (by lia);rw [Option.some.inj hl] at h2;exact h2
structure TI (h:Hs) (yt:Int) (lv:Nat->Int) (co:Nat->Nat->Int) (fl:Nat->Int) (k:Nat) (s:Cs):Prop where
 came:∀i,i < h.n->s.came i=fl i + co i 0 + Ak k (h.c1 s.page i)
 coming:∀i a,i < h.n->a < 5->s.coming i a=Hu co i a + Ak k (h.o1 s.page i a)
 basin:∀i,i < k->i < h.n->(h.pl i).kd.isB=true->s.page i=h.brow yt lv i (s.came i)
 reach:∀i,i < h.n->(h.pl i).kd.isB=false->h.last i < k->s.page i=rrow (h.Ht s.came (h.last i)) (h.Gj s.came (h.last i)) ((h.mem (h.last i)).idxOf i)
section
variable {h:Hs} {yt:Int} {lv:Nat->Int} {co:Nat->Nat->Int} {fl:Nat->Int}
theorem Zr {ca':Nat->Int} (e:∀k∈h.mem m,ca k=ca' k):h.Ht ca m=h.Ht ca' m/\h.Gj ca m=h.Gj ca' m:=by
 have e1:=ZPI (h:=h) e;have e2:h.Ht ca m=h.Ht ca' m:=by unfold Hs.Ht;rw [e1]
 refine ⟨e2,?_⟩;unfold Hs.Gj;rw [e1,e2]
theorem ZCf (g:GoodH h) (hk:k∈h.mem m):k<=m:=by have h1:=mem_iff.mp hk;have h2:=(Jc g k).1;lia
theorem ZPf (g:GoodH h) (hk:k < h.n) (t:TI h yt lv co fl k s):TI h yt lv co fl (k + 1) (h.step yt lv s k):=by
 by_cases hB:(h.pl k).kd.isB=true
 ·
  have e:h.step yt lv s k=h.basin yt lv s k:=by unfold Hs.step;rw [if_pos hB]
  rw [e];have hdir:=ZFy hB;have hpg:=(Ye (yt:=yt) (lv:=lv) (s:=s) hB).2;obtain ⟨brim,rule,pump,ek⟩:∃a b c,(h.pl k).kd=.basin a b c:=by
   cases e:(h.pl k).kd with
   | basin a b c=>exact ⟨a,b,c,rfl⟩
   | town _ _=>rw [e] at hB;cases hB
   | mill _=>rw [e] at hB;cases hB
  have hpk:(h.basin yt lv s k).page k=h.brow yt lv k (s.came k):=by
   unfold Hs.basin Hs.brow;rw [ek];simp only;cases pump with
   | none=>simp only;rw [Lr.2];simp
   | some q=>obtain ⟨to,dl,m⟩:=q;simp only;rw [V4.2,Lr.2];simp
  have hout:By (h.basin yt lv s k).page k=rv (lv k + s.came k) (held yt rule []) + (lv k + s.came k - rv (lv k + s.came k) (held yt rule []) - pm (lv k + s.came k) (held yt rule []) - min (lv k + s.came k - rv (lv k + s.came k) (held yt rule []) - pm (lv k + s.came k) (held yt rule [])) brim):=by unfold By;rw [hpk];unfold Hs.brow;rw [ek];simp [List.getD];lia
  have hpmp:Es (h.basin yt lv s k).page k=pm (lv k + s.came k) (held yt rule []):=by
   unfold Es;rw [hpk];unfold Hs.brow;rw [ek]
   rfl
  have hcame:∀i,(h.basin yt lv s k).came i=s.came i + (if h.dn k=some i/\(h.pl k).dl=0 then By (h.basin yt lv s k).page k else 0):=λi=>by
   rw [hout];unfold Hs.basin;rw [ek];simp only;cases hp:pump with
   | none=>simp only [ZBJ]
   | some q=>
    obtain ⟨to,dl,m⟩:=q;have hd:=g.pump k brim rule to dl m hk (by rw [ek,hp]);simp only [ZDG,ZBJ];rw [if_neg (show¬(to=i/\dl=0) by lia)];lia
  have hcom:∀i a,(h.basin yt lv s k).coming i a=s.coming i a + h.o1 (h.basin yt lv s k).page i a k:=λi a=>by
   unfold Hs.o1;rw [hout,hpmp];unfold Hs.basin Hs.pmp;rw [ek];simp only;cases hp:pump with
   | none=>simp [ZAr]
   | some q=>
    obtain ⟨to,dl,m⟩:=q;simp only [ZDB,ZAr,Option.some.injEq,Prod.mk.injEq];lia
  have hlow:∀i,i<=k->(h.basin yt lv s k).came i=s.came i:=λi hi=>by
   rw [hcame,if_neg]
   ·lia
   ·intro z;have:=g.dn k i hk z.1;lia
  refine ⟨λi hi=> ?_,λi a hi ha=> ?_,λi hik hi hBi=> ?_,λi hi hBi hl=> ?_⟩
  ·show _=_ + (Ak k (h.c1 (h.basin yt lv s k).page i) + h.c1 (h.basin yt lv s k).page i k);rw [hcame,t.came i hi];have e1:Ak k (h.c1 (h.basin yt lv s k).page i)=Ak k (h.c1 s.page i):=G9 λj hj=>by unfold Hs.c1 By;rw [hpg j (by lia)]
   rw [e1];unfold Hs.c1;simp only [hdir,true_and];lia
  ·show _=_ + (Ak k (h.o1 (h.basin yt lv s k).page i a) + h.o1 (h.basin yt lv s k).page i a k);rw [hcom,t.coming i a hi ha];have e1:Ak k (h.o1 (h.basin yt lv s k).page i a)=Ak k (h.o1 s.page i a):=G9 λj hj=>by unfold Hs.o1 By Es;rw [hpg j (by lia)]
   rw [e1];lia
  ·by_cases e2:i=k
   ·subst e2;rw [hpk,hlow i (Nat.le_refl _)]
   ·rw [hpg i e2,hlow i (by lia)];exact t.basin i (by lia) hi hBi
  ·have hl2:h.last i < k:=by
    rcases Nat.lt_or_ge (h.last i) k with z | z
    ·exact z
    ·have e2:h.last i=k:=by lia
     rcases ZCL g h.n i (by lia) with z2 | z2
     ·rw [<-e2,z2,hBi] at hB;cases hB
     ·rw [e2,hB] at z2;cases z2
   have hle:=(Jc g i).1;rw [hpg i (by lia),t.reach i hi hBi hl2];have:=Zr (h:=h) (m:=h.last i) (ca:=s.came) (ca':=(h.basin yt lv s k).came) λj hj=>(hlow j (by have:=ZCf g hj;lia)).symm
   rw [this.1,this.2]
 ·have hB':(h.pl k).kd.isB=false:=by
   cases z:(h.pl k).kd.isB with
   | false=>rfl
   | true=>exact absurd z hB
  by_cases hl:h.last k=k
  ·
   have e:h.step yt lv s k=h.reach s k:=by unfold Hs.step;rw [if_neg hB,if_pos hl]
   rw [e];have hdir:=ZPA g hl;have hmem:k∈h.mem k:=mem_iff.mpr ⟨hk,hl⟩;have hpg:∀j,j ∉ h.mem k->(h.reach s k).page j=s.page j:=λj hj=>by rw [Z1,if_neg hj]
   have hpm:∀j,j∈h.mem k->(h.reach s k).page j=rrow (h.Ii s k) (h.Hn s k) ((h.mem k).idxOf j):=λj hj=>by rw [Z1,if_pos hj]
   have hout:By (h.reach s k).page k=h.Hn s k ((h.mem k).length - 1):=by unfold By;rw [hpm k hmem,ZJf g hk hl];show (0:Int) + _=_;simp [rrow]
   have hcame:∀i,(h.reach s k).came i=s.came i + (if h.dn k=some i/\(h.pl k).dl=0 then By (h.reach s k).page k else 0):=λi=>by rw [hout];unfold Hs.reach;simp only [ZBJ]
   have hcom:∀i a,(h.reach s k).coming i a=s.coming i a + (if h.dn k=some i/\(h.pl k).dl=a + 1 then By (h.reach s k).page k else 0):=λi a=>by rw [hout];unfold Hs.reach;simp only [ZAr]
   have hlow:∀i,i<=k->(h.reach s k).came i=s.came i:=λi hi=>by
    rw [hcame,if_neg]
    ·lia
    ·intro z;have:=g.dn k i hk z.1;lia
   have hin:∀j,j∈h.mem k->j < k->∃d,h.dir j=some d:=λj hj hjk=>by
    cases hd:h.dir j with
    | some d=>exact ⟨d,rfl⟩
    | none=>
     have h1:=Ja g hd;have h2:=(mem_iff.mp hj).2;lia
   refine ⟨λi hi=> ?_,λi a hi ha=> ?_,λi hik hi hBi=> ?_,λi hi hBi hli=> ?_⟩
   ·show _=_ + (Ak k (h.c1 (h.reach s k).page i) + h.c1 (h.reach s k).page i k);rw [hcame,t.came i hi];have e1:Ak k (h.c1 (h.reach s k).page i)=Ak k (h.c1 s.page i):=G9 λj hj=>by
     by_cases hm:j∈h.mem k
     ·obtain ⟨d,hd⟩:=hin j hm hj;unfold Hs.c1;simp [hd]
     ·unfold Hs.c1 By;rw [hpg j hm]
    rw [e1];unfold Hs.c1;simp only [hdir,true_and];lia
   ·show _=_ + (Ak k (h.o1 (h.reach s k).page i a) + h.o1 (h.reach s k).page i a k);rw [hcom,t.coming i a hi ha];have e1:Ak k (h.o1 (h.reach s k).page i a)=Ak k (h.o1 s.page i a):=G9 λj hj=>by
     by_cases hm:j∈h.mem k
     ·obtain ⟨d,hd⟩:=hin j hm hj;have hs:=X3 hd;unfold Hs.o1;simp [hs.2.1,ZAd hs.2.2.1]
     ·unfold Hs.o1 By Es;rw [hpg j hm]
    rw [e1];unfold Hs.o1;rw [ZAd hB'];simp;lia
   ·have hik2:i < k:=by
     rcases Nat.lt_or_ge i k with z | z
     ·exact z
     ·have e2:i=k:=by lia
      rw [e2,hB'] at hBi;cases hBi
    have hm:i ∉ h.mem k:=λz=>by have h1:=(mem_iff.mp z).2;have h2:=Ja g (ZFy hBi);lia
    rw [hpg i hm,hlow i (by lia)];exact t.basin i hik2 hi hBi
   ·by_cases e2:h.last i=k
    ·have hm:i∈h.mem k:=mem_iff.mpr ⟨hi,e2⟩;rw [hpm i hm,e2];have:=Zr (h:=h) (m:=k) (ca:=s.came) (ca':=(h.reach s k).came) λj hj=>(hlow j (ZCf g hj)).symm
     rw [<-this.1,<-this.2]
     rfl
    ·have hm:i ∉ h.mem k:=λz=>e2 (mem_iff.mp z).2
     rw [hpg i hm,t.reach i hi hBi (by lia)];have:=Zr (h:=h) (m:=h.last i) (ca:=s.came) (ca':=(h.reach s k).came) λj hj=>(hlow j (by have:=ZCf g hj;lia)).symm
     rw [this.1,this.2]
  ·
   have e:h.step yt lv s k=s:=by unfold Hs.step;rw [if_neg hB,if_neg hl]
   rw [e];obtain ⟨d,hd⟩:∃d,h.dir k=some d:=by
    cases hd:h.dir k with
    | some d=>exact ⟨d,rfl⟩
    | none=>exact absurd (Ja g hd) hl
   have hs:=X3 hd;refine ⟨λi hi=> ?_,λi a hi ha=> ?_,λi hik hi hBi=> ?_,λi hi hBi hli=> ?_⟩
   ·show _=_ + (Ak k (h.c1 s.page i) + h.c1 s.page i k);rw [t.came i hi];unfold Hs.c1;simp [hd]
   ·show _=_ + (Ak k (h.o1 s.page i a) + h.o1 s.page i a k);rw [t.coming i a hi ha];unfold Hs.o1;simp [hs.2.1,ZAd hs.2.2.1]
   ·refine t.basin i ?_ hi hBi;rcases Nat.lt_or_ge i k with z | z
    ·exact z
    ·have e2:i=k:=by lia
     rw [e2,hB'] at hBi;cases hBi
   ·refine t.reach i hi hBi ?_;rcases Nat.lt_or_ge (h.last i) k with z | z
    ·exact z
    ·have e2:h.last i=k:=by lia
     have:=ZCP g h.n i (by lia);rw [e2] at this;exact absurd this hl
theorem ZGu (g:GoodH h):∀(m k:Nat) (s:Cs),k + m=h.n->TI h yt lv co fl k s->TI h yt lv co fl h.n (h.goF yt lv m k s)
 | 0,k,s,e,t=>by
  have e1:k=h.n:=by lia
  rw [e1] at t;exact t
 | m + 1,k,s,e,t=>ZGu g m (k + 1) _ (by lia) (ZPf g (by lia) t)
theorem ZGx (g:GoodH h) :TI h (at_ % h.yr) lv co fl h.n (h.cs lv co at_ fl):=by
 refine ZGu g h.n 0 _ (by lia) ⟨λi hi=> ?_,λi a hi ha=> ?_,(λi hi=>absurd hi (by lia)),(λi _ _ hi=>absurd hi (by lia))⟩
 ·show fl i + co i 0=fl i + co i 0 + 0;lia
 ·show Hu co i a=Hu co i a + 0;lia
end
theorem ZAJ:∀{m:Nat} {F:Nat->Int},Ak (m + 1) F=F 0 + Ak m λj=>F (j + 1)
 | 0,F=>by show (0:Int) + F 0=F 0 + 0;lia
 | m + 1,F=>by show Ak (m + 1) F + F (m + 1)=F 0 + (Ak m (λj=>F (j + 1)) + F (m + 1));rw [ZAJ];lia
theorem Yi:∀{n:Nat} {F:Nat->Int},Ak n F=((List.range n).map F).sum
 | 0,F=>rfl
 | n + 1,F=>by show Ak n F + F n=_;rw [List.range_succ,Yi];simp
theorem sum_filter {p:Nat->Bool} :∀{l:List Nat},((l.filter p).map F).sum=(l.map λi=>if p i=true then F i else 0).sum
 | []=>rfl
 | a::l=>by
  rw [List.filter_cons];by_cases h:p a=true
  ·rw [if_pos h,List.map_cons,List.sum_cons,sum_filter];simp [h]
  ·rw [if_neg h,sum_filter];simp [h]
theorem ZC1:∀{l:List Nat},Ak l.length (λj=>F (l.getD j 0))=(l.map F).sum
 | []=>rfl
 | a::l=>by
  show Ak (l.length + 1) _=_;rw [ZAJ,List.map_cons,List.sum_cons,<-ZC1]
  rfl
theorem ZDs (hR:Reach rs):∀(m k:Nat) (F:Nat->Int) (i:Nat),gat rs m k F i=F i + Ak m λj=>if Bl rs (k + j)=some i then gat rs m k F (k + j) else 0
 | 0,k,F,i=>by show F i=F i + 0;lia
 | m + 1,k,F,i=>by
  have ih:=ZDs hR m (k + 1) (gstep F k (Bl rs k));show gat rs m (k + 1) (gstep F k (Bl rs k)) i=F i + Ak (m + 1) λj=>if Bl rs (k + j)=some i then gat rs m (k + 1) (gstep F k (Bl rs k)) (k + j) else 0
  rw [ZAJ];have hk:gat rs m (k + 1) (gstep F k (Bl rs k)) k=F k:=by
   rw [ih k,Mu]
   ·unfold gstep;cases hd:Bl rs k with
    | none=>simp
    | some d=>
     have:=Ir hR hd;simp [fset,show¬k=d by lia]
   ·intro j hj;rw [if_neg];intro z;have:=Ir hR z;lia
  have e1:(λj=>if Bl rs (k + (j + 1))=some i then gat rs m (k + 1) (gstep F k (Bl rs k)) (k + (j + 1)) else 0)=λj=>if Bl rs (k + 1 + j)=some i then gat rs m (k + 1) (gstep F k (Bl rs k)) (k + 1 + j) else 0:=by funext j;rw [show k + (j + 1)=k + 1 + j by lia]
  rw [e1];show _=F i + ((if Bl rs k=some i then gat rs m (k + 1) (gstep F k (Bl rs k)) k else 0) + _);rw [hk,ih i];generalize Ak m _=X;unfold gstep;cases hd:Bl rs k with
  | none=>simp
  | some d=>
   simp only [fset,Option.some.injEq];by_cases e:i=d
   ·subst e;simp;lia
   ·rw [if_neg e,if_neg (λz=>e z.symm)];lia
theorem ZMm (hR:Reach rs) (F:Nat->Int) (i:Nat):gath rs F i=F i + Ak rs.length λj=>if Bl rs j=some i then gath rs F j else 0:=by have:=ZDs hR rs.length 0 F i;simpa using this
section
variable {h:Hs} {yt:Int} {lv:Nat->Int} {co:Nat->Nat->Int} {fl:Nat->Int}
theorem ZIk:(h.mem m).Nodup:=(Rg (h:=h) (m:=m)).imp λhab=>Nat.ne_of_lt hab
theorem ZDD (hi:i < ms.length):(h.rows ms ca)[i]? =some (h.row ms ca ms[i]):=by
 unfold Hs.rows;rw [List.getElem?_map,List.getElem?_eq_getElem hi]
 rfl
theorem ZDu {q:Row->Int} (hk:k∈ms):col q (h.rows ms ca) (ms.idxOf k)=q (h.row ms ca k):=by have hl:=List.idxOf_lt_length_of_mem hk;unfold col;rw [ZDD hl,List.getElem_idxOf hl]
theorem ZHK (g:GoodH h) (hi:i < (h.mem m).length) (hk:k∈h.mem m):(Bl (h.rows (h.mem m) ca) i=some ((h.mem m).idxOf k))↔h.dir (h.mem m)[i]=some k:=by
 unfold Bl;rw [ZDD hi];show (h.dir (h.mem m)[i]).map _=_↔_;cases hd:h.dir (h.mem m)[i] with
 | none=>simp
 | some d=>
  have h1:=mem_iff.mp (List.getElem_mem hi);have h2:=Kf g hd;have hdm:d∈h.mem m:=mem_iff.mpr ⟨h2.2.1,by rw [<-Jx g hd];exact h1.2⟩;simp only [Option.map_some,Option.some.injEq];constructor
  ·intro z;have l1:=List.idxOf_lt_length_of_mem hdm;have l2:=List.idxOf_lt_length_of_mem hk;have e1:=List.getElem_idxOf l1;have e2:=List.getElem_idxOf l2;rw [<-e1,<-e2];simp only [z]
  ·intro z;rw [z]
theorem ZH0 (g:GoodH h) (hc:∀k,k < h.n->0<=ca k) (hk:k∈h.mem m):h.Gj ca m ((h.mem m).idxOf k)=ca k - h.Ht ca m ((h.mem m).idxOf k) + Ak h.n λj=>if h.dir j=some k then h.Gj ca m ((h.mem m).idxOf j) else 0:=by
 have hR:=Rk g (m:=m) hc;have e:=ZMm hR (λi=>col Row.water (h.rows (h.mem m) ca) i - h.Ht ca m i) ((h.mem m).idxOf k);have e2:(λi=>gath (h.rows (h.mem m) ca) (λi=>col Row.water (h.rows (h.mem m) ca) i - h.Ht ca m i) i)=h.Gj ca m:=rfl;show gath (h.rows (h.mem m) ca) (λi=>col Row.water (h.rows (h.mem m) ca) i - h.Ht ca m i) ((h.mem m).idxOf k)=_;rw [e];show col Row.water (h.rows (h.mem m) ca) ((h.mem m).idxOf k) - h.Ht ca m ((h.mem m).idxOf k) + Ak _ (λj=>if Bl (h.rows (h.mem m) ca) j=some ((h.mem m).idxOf k) then h.Gj ca m j else 0)=_
 rw [ZDu hk];show ca k - _ + _=_
 congr 1
 rw [Pu];have e3:Ak (h.mem m).length (λj=>if Bl (h.rows (h.mem m) ca) j=some ((h.mem m).idxOf k) then h.Gj ca m j else 0)=Ak (h.mem m).length λj=>(λi=>if h.dir i=some k then h.Gj ca m ((h.mem m).idxOf i) else 0) ((h.mem m).getD j 0):=G9 λj hj=>by
  have e4:(h.mem m).getD j 0=(h.mem m)[j]:=by simp [List.getD_eq_getElem?_getD,List.getElem?_eq_getElem hj]
  show _=(if h.dir ((h.mem m).getD j 0)=some k then _ else _);rw [e4,ZBf ZIk hj];by_cases hd:h.dir (h.mem m)[j]=some k
  ·rw [if_pos hd,if_pos ((ZHK g hj hk).mpr hd)]
  ·rw [if_neg hd,if_neg λz=>hd ((ZHK g hj hk).mp z)]
 have e5:=ZC1 (F:=λi=>if h.dir i=some k then h.Gj ca m ((h.mem m).idxOf i) else 0) (l:=h.mem m);rw [e3,e5,Yi];have e6:((h.mem m).map λi=>if h.dir i=some k then h.Gj ca m ((h.mem m).idxOf i) else 0).sum=((List.range h.n).map λi=>if decide (h.last i=m)=true then (if h.dir i=some k then h.Gj ca m ((h.mem m).idxOf i) else 0) else 0).sum:=sum_filter (p:=λk=>decide (h.last k=m)) (l:=List.range h.n);rw [e6]
 congr 1
 refine List.map_congr_left λi hi=> ?_
 by_cases hd:h.dir i=some k
 ·have h1:=(mem_iff.mp hk).2;have h2:=Jx g hd;rw [if_pos (by simp;lia)]
 ·simp [hd]
theorem ZOt (g:GoodH h) (t:TI h yt lv co fl h.n s) (nn:s.NN h.n) (hk:k < h.n):(s.page k).getD 0 0=fl k + co k 0 + Ak h.n λj=>if h.dn j=some k/\(h.pl j).dl=0 then By s.page j else 0:=by
 cases hB:(h.pl k).kd.isB with
 | true=>
  rw [t.basin k hk hk hB];have e1:(h.brow yt lv k (s.came k)).getD 0 0=s.came k:=by
   unfold Hs.brow;cases e:(h.pl k).kd with
   | basin a b c=>rfl
   | town _ _=>rw [e] at hB;cases hB
   | mill _=>rw [e] at hB;cases hB
  rw [e1,t.came k hk]
  congr 1
  refine G9 λj hj=> ?_
  unfold Hs.c1;by_cases hc:h.dn j=some k/\(h.pl j).dl=0
  ·have:h.dir j=none:=by
    cases hd:h.dir j with
    | none=>rfl
    | some d=>
     have hs:=X3 hd;rw [hc.1] at hs;have:=Option.some.inj hs.1;rw [<-this,hB] at hs;cases hs.2.2.2
   rw [if_pos ⟨this,hc⟩,if_pos hc]
  ·rw [if_neg hc,if_neg λz=>hc z.2]
 | false=>
  have hl:=(Jc g k).2 hk;have hm:k∈h.mem (h.last k):=mem_iff.mpr ⟨hk,rfl⟩;have hp:=t.reach k hk hB hl;have e1:(s.page k).getD 0 0=h.Ht s.came (h.last k) ((h.mem (h.last k)).idxOf k) + h.Gj s.came (h.last k) ((h.mem (h.last k)).idxOf k):=by rw [hp];rfl
  rw [e1,ZH0 g nn.1 hm,t.came k hk];have e2:(Ak h.n λj=>if h.dn j=some k/\(h.pl j).dl=0 then By s.page j else 0)=Ak h.n (h.c1 s.page k) + Ak h.n λj=>if h.dir j=some k then h.Gj s.came (h.last k) ((h.mem (h.last k)).idxOf j) else 0:=by
   rw [<-Hb];refine G9 λj hj=> ?_
   unfold Hs.c1;cases hd:h.dir j with
   | none=>simp
   | some d=>
    have hs:=X3 hd;have hlj:=(Jc g j).2 hj;have hpj:=t.reach j hj hs.2.2.1 hlj;by_cases e:d=k
    ·subst e;have ho:By s.page j=h.Gj s.came (h.last d) ((h.mem (h.last d)).idxOf j):=by unfold By;rw [hpj,Jx g hd];show (0:Int) + _=_;simp [rrow]
     rw [if_pos ⟨hs.1,hs.2.1⟩,if_neg (λz=>nomatch z.1),if_pos rfl,ho]
     lia
    ·have n1:¬(h.dn j=some k/\(h.pl j).dl=0):=λz=>by rw [hs.1] at z;exact e (Option.some.inj z.1)
     rw [if_neg n1,if_neg (λz=>nomatch z.1),if_neg (λz=>e (Option.some.inj z))]
     lia
  rw [e2];lia
end
theorem ZBE:∀{n m:Nat} {X:Nat->Nat->Int},Ak n (λk=>Ak m (X k))=Ak m λj=>Ak n λk=>X k j
 | 0,m,X=>(Mu λ_ _=>rfl).symm
 | n + 1,m,X=>by
  show Ak n (λk=>Ak m (X k)) + Ak m (X n)=Ak m λj=>Ak n (λk=>X k j) + X n j
  rw [ZBE,<-Hb]
theorem Vg {x:Int}:∀{n:Nat},Ak n (λk=>if d=k then x else 0)=if d < n then x else 0
 | 0=>rfl
 | n + 1=>by
  show Ak n _ + (if d=n then x else 0)=_;rw [Vg];by_cases h:d=n
  ·rw [if_neg (show¬d < n by lia),if_pos h,if_pos (show d < n + 1 by lia)];lia
  ·rw [if_neg h];by_cases h2:d < n
   ·rw [if_pos h2,if_pos (show d < n + 1 by lia)];lia
   ·rw [if_neg h2,if_neg (show¬d < n + 1 by lia)];lia
noncomputable def sum5 (F:Nat->Int):Int:=F 0 + F 1 + F 2 + F 3 + F 4
noncomputable def Hq (n:Nat) (lv:Nat->Int) (co:Nat->Nat->Int):Int:=Ak n lv + Ak n λk=>sum5 (co k)
noncomputable def Et (h:Hs) (pg:Nat->List Int) (k:Nat):Int:=(pg k).getD 1 0 + (if h.dn k=none then By pg k else 0)
noncomputable def NoPump (h:Hs):Prop:=∀k b r,k < h.n->(h.pl k).kd=.basin b r none->∀s∈r,∀t∈s.2,t.r=true
theorem ZEG:∀{st:List Stp},(∀t∈st,t.r=true)->pm w st=0
 | [],_=>rfl
 | t::st,h=>by show (if t.r then 0 else cub w t) + pm w st=0;rw [if_pos (h t (by simp)),ZEG λx hx=>h x (List.mem_cons_of_mem _ hx)];rfl
theorem ZAg {t:Int}:∀{r:List Ssn} {x:List Stp},held t r x=x∨∃s∈r,held t r x=s.2
 | [],x=>.inl rfl
 | s::r,x=>by
  show held t r (if s.1<=t then s.2 else x)=x∨_;rcases ZAg (t:=t) (r:=r) (x:=if s.1<=t then s.2 else x) with z | ⟨s',hs,z⟩
  ·by_cases hc:s.1<=t
   ·rw [if_pos hc] at z;exact .inr ⟨s,by simp,by show held t r (if s.1<=t then s.2 else x)=_;rw [if_pos hc];exact z⟩
   ·rw [if_neg hc] at z;exact .inl (by rw [if_neg hc];exact z)
  ·exact .inr ⟨s',List.mem_cons_of_mem _ hs,z⟩
theorem add10 {b d a' b' c' d' e':Int}:(a + a') + (b + b') + (c + c') + (d + d') + (e + e')=(a + b + c + d + e) + (a' + b' + c' + d' + e'):=by lia
section
variable {h:Hs} {yt:Int} {lv:Nat->Int} {co:Nat->Nat->Int} {fl:Nat->Int}
theorem nopump (hp:NoPump h) {b:Int} {r:List Ssn} (hk:k < h.n) (e:(h.pl k).kd=.basin b r none) :pm w (held yt r [])=0:=by
 refine ZEG λt ht=> ?_
 rcases ZAg (t:=yt) (r:=r) (x:= []) with z | ⟨s,hs,z⟩
 ·rw [z] at ht;cases ht
 ·rw [z] at ht;exact hp k b r hk e s hs t ht
theorem ZDC (g:GoodH h) (hp:NoPump h) (t:TI h yt lv co fl h.n s) (hlv:∀k,k < h.n->(h.pl k).kd.isB=false->lv k=0) (hk:k < h.n):
  lv k + (s.page k).getD 0 0=(s.page k).getD 1 0 + By s.page k + Es s.page k + lies s.page k/\(h.pmp k=none->Es s.page k=0):=by
 cases hB:(h.pl k).kd.isB with
 | true=>
  unfold By Es lies;rw [t.basin k hk hk hB];unfold Hs.brow Hs.pmp;cases e:(h.pl k).kd with
  | basin a b c=>
   refine ⟨by simp [List.getD];lia,λz=> ?_⟩;cases c with
   | some q=>obtain ⟨x,y,w⟩:=q;cases z
   | none=>exact nopump hp hk e
  | town _ _=>rw [e] at hB;cases hB
  | mill _=>rw [e] at hB;cases hB
 | false=>
  have hl:=(Jc g k).2 hk;unfold By Es lies;rw [t.reach k hk hB hl,hlv k hk hB];refine ⟨?_,λ_=>rfl⟩;simp [rrow,List.getD]
theorem ZHz (g:GoodH h) (hj:j < h.n):Ak h.n (λk=>sum5 λa=>h.o1 pg k a j)=(if h.dn j≠none/\0 < (h.pl j).dl then By pg j else 0) + (if h.pmp j≠none then Es pg j else 0):=by
 have e1:∀k,sum5 (λa=>h.o1 pg k a j)=(if h.dn j=some k then (if 0 < (h.pl j).dl then By pg j else 0) else 0) + (match h.pmp j with | some (to,_)=>if to=k then Es pg j else 0 | none=>0):=λk=>by
  have hd:=g.dl j hj;unfold sum5 Hs.o1;have a1:((if h.dn j=some k/\(h.pl j).dl=0 + 1 then By pg j else 0) + (if h.dn j=some k/\(h.pl j).dl=1 + 1 then By pg j else 0) + (if h.dn j=some k/\(h.pl j).dl=2 + 1 then By pg j else 0) + (if h.dn j=some k/\(h.pl j).dl=3 + 1 then By pg j else 0) + (if h.dn j=some k/\(h.pl j).dl=4 + 1 then By pg j else 0))=if h.dn j=some k then (if 0 < (h.pl j).dl then By pg j else 0) else 0:=by
   by_cases hc:h.dn j=some k
   ·simp only [hc,true_and,if_true]
    rcases (by lia:(h.pl j).dl=0∨(h.pl j).dl=1∨(h.pl j).dl=2∨(h.pl j).dl=3∨(h.pl j).dl=4∨(h.pl j).dl=5) with z | z | z | z | z | z <;> simp [z]
   ·simp [hc]
  have a2:((if h.pmp j=some (k,0 + 1) then Es pg j else 0) + (if h.pmp j=some (k,1 + 1) then Es pg j else 0) + (if h.pmp j=some (k,2 + 1) then Es pg j else 0) + (if h.pmp j=some (k,3 + 1) then Es pg j else 0) + (if h.pmp j=some (k,4 + 1) then Es pg j else 0))=match h.pmp j with | some (to,_)=>if to=k then Es pg j else 0 | none=>0:=by
   cases hq:h.pmp j with
   | none=>simp
   | some q=>
    obtain ⟨to,dl⟩:=q;have hdl:1<=dl/\dl<=5:=by
     unfold Hs.pmp at hq;cases e:(h.pl j).kd with
     | basin b r p=>
      rw [e] at hq;cases p with
      | none=>cases hq
      | some p=>
       obtain ⟨x,y,w⟩:=p;cases hq;exact (g.pump j b r to dl w hj e).2
     | town _ _=>rw [e] at hq;cases hq
     | mill _=>rw [e] at hq;cases hq
    simp only [Option.some.injEq,Prod.mk.injEq];by_cases hc:to=k
    ·simp only [hc,true_and,if_true]
     rcases (by lia:dl=1∨dl=2∨dl=3∨dl=4∨dl=5) with z | z | z | z | z <;> simp [z]
    ·simp [hc]
  rw [<-a1,<-a2];exact add10
 rw [G9 (λk _=>e1 k),Hb]
 congr 1
 ·cases hd:h.dn j with
  | none=>simp;exact Mu λ_ _=>rfl
  | some d=>
   have hl:=g.dn j d hj hd;have e2:Ak h.n (λk=>if some d=some k then (if 0 < (h.pl j).dl then By pg j else 0) else 0)=Ak h.n (λk=>if d=k then (if 0 < (h.pl j).dl then By pg j else 0) else 0):=G9 λk _=>by simp only [Option.some.injEq]
   rw [e2,Vg,if_pos hl.2];simp
 ·cases hq:h.pmp j with
  | none=>simp;exact Mu λ_ _=>rfl
  | some q=>
   obtain ⟨to,dl⟩:=q;have hto:to < h.n:=by
    unfold Hs.pmp at hq;cases e:(h.pl j).kd with
    | basin b r p=>
     rw [e] at hq;cases p with
     | none=>cases hq
     | some p=>
      obtain ⟨x,y,w⟩:=p;cases hq;exact (g.pump j b r to dl w hj e).1
    | town _ _=>rw [e] at hq;cases hq
    | mill _=>rw [e] at hq;cases hq
   simp only;rw [Vg,if_pos hto];simp
theorem ZMj (g:GoodH h) (hp:NoPump h) (t:TI h yt lv co fl h.n s) (nn:s.NN h.n) (hlv:∀k,k < h.n->(h.pl k).kd.isB=false->lv k=0):
  Hq h.n (lies s.page) s.coming=Hq h.n lv co + Ak h.n fl - Ak h.n (Et h s.page):=by
 have a0:Ak h.n (λk=>(s.page k).getD 0 0)=Ak h.n fl + Ak h.n (λk=>co k 0) + Ak h.n λj=>if h.dn j≠none/\(h.pl j).dl=0 then By s.page j else 0:=by
  rw [G9 (λk hk=>ZOt g t nn hk),Hb,Hb,ZBE]
  congr 1
  refine G9 λj hj=> ?_
  cases hd:h.dn j with
  | none=>simp;exact Mu λ_ _=>rfl
  | some d=>
   have hl:=g.dn j d hj hd;by_cases hc:(h.pl j).dl=0
   ·have e2:Ak h.n (λk=>if some d=some k/\(h.pl j).dl=0 then By s.page j else 0)=Ak h.n (λk=>if d=k then By s.page j else 0):=G9 λk _=>by simp [hc]
    rw [e2,Vg,if_pos hl.2];simp [hc]
   ·rw [Mu λk _=>by simp [hc]];simp [hc]
 have a1:Ak h.n (λk=>sum5 (s.coming k))=Ak h.n (λk=>sum5 (Hu co k)) + Ak h.n λj=>(if h.dn j≠none/\0 < (h.pl j).dl then By s.page j else 0) + (if h.pmp j≠none then Es s.page j else 0):=by
  have e1:∀k,k < h.n->sum5 (s.coming k)=sum5 (Hu co k) + Ak h.n λj=>sum5 λa=>h.o1 s.page k a j:=λk hk=>by unfold sum5;rw [t.coming k 0 hk (by lia),t.coming k 1 hk (by lia),t.coming k 2 hk (by lia),t.coming k 3 hk (by lia),t.coming k 4 hk (by lia)];rw [Hb,Hb,Hb,Hb];show _=_ + (Ak h.n (h.o1 s.page k 0) + Ak h.n (h.o1 s.page k 1) + Ak h.n (h.o1 s.page k 2) + Ak h.n (h.o1 s.page k 3) + Ak h.n (h.o1 s.page k 4));lia
  rw [G9 e1,Hb,ZBE]
  congr 1
  exact G9 λj hj=>ZHz g hj
 have a2:Ak h.n (λk=>lv k + (s.page k).getD 0 0)=Ak h.n (λk=>(s.page k).getD 1 0 + By s.page k + Es s.page k + lies s.page k):=G9 λk hk=>(ZDC g hp t hlv hk).1
 have a3:Ak h.n (λk=>sum5 (Hu co k)) + Ak h.n (λk=>co k 0)=Ak h.n λk=>sum5 (co k):=by
  rw [<-Hb];refine G9 λk _=> ?_
  unfold sum5 Hu;simp;lia
 have a4:Ak h.n (Et h s.page) + (Ak h.n (λj=>if h.dn j≠none/\(h.pl j).dl=0 then By s.page j else 0) + Ak h.n λj=>(if h.dn j≠none/\0 < (h.pl j).dl then By s.page j else 0) + (if h.pmp j≠none then Es s.page j else 0))=Ak h.n λk=>(s.page k).getD 1 0 + By s.page k + Es s.page k:=by
  rw [<-Hb,<-Hb];refine G9 λk hk=> ?_
  have hz:=(ZDC g hp t hlv hk).2;unfold Et;have b1:(if h.pmp k≠none then Es s.page k else 0)=Es s.page k:=by
   by_cases hc:h.pmp k=none
   ·rw [hz hc];simp
   ·rw [if_pos hc]
  have b2:(if h.dn k=none then By s.page k else 0) + ((if h.dn k≠none/\(h.pl k).dl=0 then By s.page k else 0) + (if h.dn k≠none/\0 < (h.pl k).dl then By s.page k else 0))=By s.page k:=by
   by_cases hc:h.dn k=none
   ·simp [hc]
   ·by_cases h0:(h.pl k).dl=0
    ·simp [hc,h0]
    ·simp [hc,h0]
     try lia
  lia
 rw [Hb,Hb] at a2;unfold Hq;have a5:Ak h.n (lies s.page)=Ak h.n λk=>lies s.page k:=rfl
 have a6:Ak h.n lv=Ak h.n λk=>lv k:=rfl
 lia
end
theorem ZJ6 {w':Int} (h:w<=w'):∀{st:List Stp} {t:Int},Good t st->rv w' st + pm w' st - (rv w st + pm w st)<=max w' t - max w t
 | [],t,_=>by show (0:Int) + 0 - (0 + 0)<=_;lia
 | s::st,t,hg=>by
  obtain ⟨h1,h2,h3⟩:=hg;have ih:=ZJ6 h h3;have e:∀w,rv w (s::st) + pm w (s::st)=cub w s + (rv w st + pm w st):=λw=>by
   show (if s.r then cub w s else 0) + rv w st + ((if s.r then 0 else cub w s) + pm w st)=_
   split <;> lia
  rw [e,e];unfold cub;lia
theorem ZHq {w:Int}:∀{st:List Stp} {t:Int},Good t st->rv w st + pm w st<=max 0 (w - t)
 | [],t,_=>by show (0:Int) + 0<=_;lia
 | s::st,t,hg=>by
  obtain ⟨h1,h2,h3⟩:=hg;have ih:=ZHq (w:=w) h3;have e:rv w (s::st) + pm w (s::st)=cub w s + (rv w st + pm w st):=by
   show (if s.r then cub w s else 0) + rv w st + ((if s.r then 0 else cub w s) + pm w st)=_
   split <;> lia
  rw [e];unfold cub;lia
section
variable {h:Hs} {yt:Int} {lv lv':Nat->Int} {co co':Nat->Nat->Int} {fl fl':Nat->Int}
theorem ZL7 (g:GoodH h) (hk:k < h.n) {b:Int} {r:List Ssn} (e:(h.pl k).kd=.basin b r q):Good 0 (held yt r []):=by
 rcases ZAg (t:=yt) (r:=r) (x:= []) with z | ⟨s,hs,z⟩
 ·rw [z];trivial
 ·rw [z];exact (g.brim k b r q hk e).2 s hs
end
structure PageOk (h:Hs) (pg:Nat->List Int):Prop where
 row:∀k,k < h.n->∃a b c d e f,pg k= [a,b,c,d,e,f]/\0<=a/\0<=b/\0<=c/\0<=d/\0<=e/\0<=f
 brim:∀k b r q,k < h.n->(h.pl k).kd=.basin b r q->(pg k).getD 5 0<=b/\(0 < (pg k).getD 2 0->(pg k).getD 5 0=b)
 town:∀k a b,k < h.n->(h.pl k).kd=.town a b->(pg k).getD 1 0<=a
 idleB:∀k,k < h.n->(h.pl k).kd.isB=true->(pg k).getD 1 0=0
 ZKl:∀k,k < h.n->(h.pl k).kd.isB=false->(pg k).getD 2 0=0/\(pg k).getD 4 0=0/\(pg k).getD 5 0=0
structure StOk (h:Hs) (lv:Nat->Int) (co:Nat->Nat->Int):Prop where
 lv0:∀k,k < h.n->0<=lv k
 lvR:∀k,k < h.n->(h.pl k).kd.isB=false->lv k=0
 co0:∀k a,k < h.n->a < 5->0<=co k a
section
variable {h:Hs} {yt:Int} {lv:Nat->Int} {co:Nat->Nat->Int} {fl:Nat->Int}
theorem ZDz (g:GoodH h) (t:TI h yt lv co fl h.n s) (nn:s.NN h.n) (h0:∀k,k < h.n->0<=lv k):PageOk h s.page:=by
 refine ⟨λk hk=> ?_,λk b r q hk e=> ?_,λk a b hk e=> ?_,λk hk hB=> ?_,λk hk hB=> ?_⟩
 ·cases hB:(h.pl k).kd.isB with
  | true=>
   rw [t.basin k hk hk hB];unfold Hs.brow;cases e:(h.pl k).kd with
   | basin b r q=>
    have a0:=h0 k hk;have a1:=nn.1 k hk;have a2:=ZBi (w:=lv k + s.came k) (st:=held yt r []);have a3:=ZCJ (w:=lv k + s.came k) (st:=held yt r []);have a4:=ZHq (w:=lv k + s.came k) (ZL7 (yt:=yt) g hk e);have a5:=(g.brim k b r q hk e).1;exact ⟨_,_,_,_,_,_,rfl,a1,Int.le_refl _,by lia,a2,a3,by lia⟩
   | town _ _=>rw [e] at hB;cases hB
   | mill _=>rw [e] at hB;cases hB
  | false=>
   have hl:=(Jc g k).2 hk;rw [t.reach k hk hB hl];have hR:=Rk g (m:=h.last k) nn.1;have hm:k∈h.mem (h.last k):=mem_iff.mpr ⟨hk,rfl⟩;have hsi:=ZCk hR;have t0:0<=h.Ht s.came (h.last k) ((h.mem (h.last k)).idxOf k):=hsi.t0 _;have l0:0<=h.Gj s.came (h.last k) ((h.mem (h.last k)).idxOf k):=by have:=hsi.p0 ((h.mem (h.last k)).idxOf k) (by rw [Pu];exact List.idxOf_lt_length_of_mem hm);rw [hsi.pg] at this;exact this
   exact ⟨_,_,_,_,_,_,rfl,by lia,t0,Int.le_refl _,l0,Int.le_refl _,Int.le_refl _⟩
 ·have hB:(h.pl k).kd.isB=true:=by rw [e];rfl
  rw [t.basin k hk hk hB];unfold Hs.brow;rw [e];simp only [List.getD_cons_succ,List.getD_cons_zero];lia
 ·have hB:(h.pl k).kd.isB=false:=by rw [e];rfl
  have hl:=(Jc g k).2 hk;rw [t.reach k hk hB hl];have hR:=Rk g (m:=h.last k) nn.1;have hm:k∈h.mem (h.last k):=mem_iff.mpr ⟨hk,rfl⟩;have hn:=(ZCk hR).tn ((h.mem (h.last k)).idxOf k);rw [ZDu hm] at hn;have e2:(h.row (h.mem (h.last k)) s.came k).need=a:=by show h.need k=a;unfold Hs.need;rw [e]
  rw [e2] at hn;exact hn
 ·rw [t.basin k hk hk hB];unfold Hs.brow
  cases e:(h.pl k).kd <;> rfl
 ·have hl:=(Jc g k).2 hk;rw [t.reach k hk hB hl];exact ⟨rfl,rfl,rfl⟩
theorem ZFg (g:GoodH h) (t:TI h yt lv co fl h.n s) (nn:s.NN h.n) (h0:∀k,k < h.n->0<=lv k):StOk h (lies s.page) s.coming:=by have po:=ZDz g t nn h0;refine ⟨λk hk=> ?_,λk hk hB=>(po.ZKl k hk hB).2.2,nn.2⟩;obtain ⟨a,b,c,d,e,f,e1,h1⟩:=po.row k hk;unfold lies;rw [e1];exact h1.2.2.2.2.2
end
section
variable {h:Hs}
theorem ZEw (g:GoodH h):∀(fls:List (Nat->Int)) (s:St2) (a:Int),StOk h s.1 s.2->(∀fl∈fls,∀k,k < h.n->0<=fl k)->(∀pg∈h.Ga fls s a,PageOk h pg)/\StOk h (h.El fls s a).1 (h.El fls s a).2
 | [],s,a,hs,_=>⟨(λpg hp=>nomatch hp),hs⟩
 | fl::r,s,a,hs,hf=>by
  have hf1:=hf fl (by simp);have t:=ZGx (lv:=s.1) (co:=s.2) (fl:=fl) g (at_:=a);have nn:=Yw g (lv:=s.1) (fl:=fl) (co:=s.2) (a:=a) hs.co0 hf1;have ih:=ZEw g r (h.nxt s a fl) (a + 1) (ZFg g t nn hs.lv0) λf' hf'=>hf f' (List.mem_cons_of_mem _ hf')
  refine ⟨λpg hp=> ?_,ih.2⟩;rcases List.mem_cons.mp hp with rfl | hp
  ·exact ZDz g t nn hs.lv0
  ·exact ih.1 pg hp
theorem ZGy (g:GoodH h) (hp:NoPump h):∀(fls:List (Nat->Int)) (s:St2) (a:Int),StOk h s.1 s.2->(∀fl∈fls,∀k,k < h.n->0<=fl k)->
  Hq h.n (h.El fls s a).1 (h.El fls s a).2=Hq h.n s.1 s.2 + (fls.map (Ak h.n)).sum - ((h.Ga fls s a).map λpg=>Ak h.n (Et h pg)).sum
 | [],s,a,hs,_=>by show Hq h.n s.1 s.2=Hq h.n s.1 s.2 + 0 - 0;lia
 | fl::r,s,a,hs,hf=>by
  have hf1:=hf fl (by simp);have t:=ZGx (lv:=s.1) (co:=s.2) (fl:=fl) g (at_:=a);have nn:=Yw g (lv:=s.1) (fl:=fl) (co:=s.2) (a:=a) hs.co0 hf1;have ih:=ZGy g hp r (h.nxt s a fl) (a + 1) (ZFg g t nn hs.lv0) λf' hf'=>hf f' (List.mem_cons_of_mem _ hf')
  have e:=ZMj g hp t nn hs.lvR;show Hq h.n (h.El r (h.nxt s a fl) (a + 1)).1 (h.El r (h.nxt s a fl) (a + 1)).2=_;rw [ih];show Hq h.n (lies (h.cs s.1 s.2 a fl).page) (h.cs s.1 s.2 a fl).coming + _ - _=_;rw [e];show _=Hq h.n s.1 s.2 + ((fl::r).map (Ak h.n)).sum - (((h.cs s.1 s.2 a fl).page::h.Ga r (h.nxt s a fl) (a + 1)).map λpg=>Ak h.n (Et h pg)).sum;rw [List.map_cons,List.sum_cons,List.map_cons,List.sum_cons]
  lia
end
theorem ZNv {x:Int} (hx:0<=x) (G:DH):Oa [.int x] G=.ok (.bl true) G:=by unfold Oa ZDT;rw [Br];simp [hx,Bx]
theorem ZCp (h:∀x∈xs,0<=x) (G:DH):Eb (gV 0) Ce (dFn Oa (Ab (dV 0) Ae)) [none] (xs.map D.int) G=.ok ((xs.map λ_=>true).map D.bl) G:=by rw [List.map_map];exact Oo (E:=D.int) (F:=λ_=>.bl true) λx hx=>by simp [ZNv (h x hx)]
theorem ZAk (G:DH):freeze G (.ok (.ref G.length) (G++ [.lst ((xs.map λ_=>true).map D.bl)]))=.ok (.fl ((xs.map λ_=>true).map D.bl)) G:=Gy (G7 λ_ _=>rfl)
theorem ZCU:(xs.map λ_=>true).all id=true:=by simp
theorem ZGZ {x y:Option D} {G:DH}:∀(rows:List (List Int)) (z:Option D),(∀r∈rows,r.length=6/\∀v∈r,0<=v)->∃z',Bh (gV 2) Xq (rows.map λr=>.tup (r.map D.int)) [x,y,z] G=.nx [x,y,z'] G
 | [],z,_=>⟨z,by rw [List.map_nil,Ed]⟩
 | r::rows,z,h=>by
  obtain ⟨z',ih⟩:=ZGZ (x:=x) (y:=y) (G:=G) rows (some (.tup (r.map D.int))) λr' hr'=>h r' (List.mem_cons_of_mem _ hr')
  refine ⟨z',?_⟩;obtain ⟨h6,h0⟩:=h r (by simp);have hb:Xq [x,y,some (.tup (r.map D.int))] G=.nx [x,y,some (.tup (r.map D.int))] G:=by
   have hw:=ZCp h0 G;have hz:=ZAk (xs:=r) G;have hal:=ZCU (xs:=r);have ea:=Z5 (ks:=r.map λ_=>true) (G:=G);rw [hal] at ea;have hts:((r.map λ_=>true).map D.bl).length<=1000000:=by simp [h6]
   generalize (r.map λ_=>true).map D.bl=ts at hw hz ea hts;unfold Xq ZDc;simp [hts,h6,Bf,hw,hz,ea]
  rw [List.map_cons,Dk];simp only [Ds,R.Di,List.set,hb,Dv];exact ih
theorem ZLM (p:PageOk h pg):Cu h.n pg=((List.range h.n).map pg).map λr=>.tup (r.map D.int):=by
 unfold Cu;rw [List.map_map];refine List.map_congr_left λk hk=> ?_
 obtain ⟨a,b,c,d,e,f,e1,_⟩:=p.row k (List.mem_range.mp hk);show Jd (pg k)=_;rw [e1];simp [Jd,e1]
theorem ZIZ (p:PageOk h pg) (G:DH):Vo [pgD h.n pg,.int h.n] G=.ok (.bl true) G:=by
 obtain ⟨z',hL⟩:=ZGZ (x:=some (pgD h.n pg)) (y:=some (.int h.n)) (G:=G) ((List.range h.n).map pg) none λr hr=>by
  obtain ⟨k,hk,rfl⟩:=List.mem_map.mp hr;obtain ⟨a,b,c,d,e,f,e1,h1,h2,h3,h4,h5,h6⟩:=p.row k (List.mem_range.mp hk);rw [e1];refine ⟨rfl,λv hv=> ?_⟩;simp only [List.mem_cons,List.not_mem_nil,or_false] at hv
  rcases hv with rfl | rfl | rfl | rfl | rfl | rfl <;> assumption
 rw [<-ZLM p] at hL;have hlen:(Cu h.n pg).length=h.n:=Vq;unfold pgD at hL ⊢;generalize Cu h.n pg=L at hL hlen;unfold Vo ZDi;rw [Br];simp [hlen,hL,Bx]
theorem ZHc {x y:Option D} {G:DH}:∀(rows:List (List Int)) (z:Option D),(∀r∈rows,r.length=5/\∀v∈r,0<=v)->∃z',Bh (gV 2) Y0 (rows.map λr=>.tup (r.map D.int)) [x,y,z] G=.nx [x,y,z'] G
 | [],z,_=>⟨z,by rw [List.map_nil,Ed]⟩
 | r::rows,z,h=>by
  obtain ⟨z',ih⟩:=ZHc (x:=x) (y:=y) (G:=G) rows (some (.tup (r.map D.int))) λr' hr'=>h r' (List.mem_cons_of_mem _ hr')
  refine ⟨z',?_⟩;obtain ⟨h6,h0⟩:=h r (by simp);have hb:Y0 [x,y,some (.tup (r.map D.int))] G=.nx [x,y,some (.tup (r.map D.int))] G:=by
   have hw:=ZCp h0 G;have hz:=ZAk (xs:=r) G;have hal:=ZCU (xs:=r);have ea:=Z5 (ks:=r.map λ_=>true) (G:=G);rw [hal] at ea;have hts:((r.map λ_=>true).map D.bl).length<=1000000:=by simp [h6]
   generalize (r.map λ_=>true).map D.bl=ts at hw hz ea hts;unfold Y0 ZF3;simp [hts,h6,Bf,hw,hz,ea]
  rw [List.map_cons,Dk];simp only [Ds,R.Di,List.set,hb,Dv];exact ih
theorem ZMD {n:Nat} :Ci n co=((List.range n).map λk=>(List.range 5).map (co k)).map λr=>.tup (r.map D.int):=by
 unfold Ci;rw [List.map_map];refine List.map_congr_left λk _=> ?_
 show D.tup (tab 5 (co k))=D.tup (((List.range 5).map (co k)).map D.int);rw [List.map_map]
 rfl
theorem S8 {n:Nat} :tab n F=((List.range n).map F).map D.int:=by
 rw [List.map_map]
 rfl
theorem ZNn (gl:h.n<=12) (p:StOk h lv co) (G:DH):Vv [stD h.n lv co,.int h.n] G=.ok (.bl true) G:=by
 obtain ⟨z',hL⟩:=ZHc (x:=some (stD h.n lv co)) (y:=some (.int h.n)) (G:=G) ((List.range h.n).map λk=>(List.range 5).map (co k)) none λr hr=>by obtain ⟨k,hk,rfl⟩:=List.mem_map.mp hr;refine ⟨by simp,λv hv=> ?_⟩;obtain ⟨a,ha,rfl⟩:=List.mem_map.mp hv;exact p.co0 k a (List.mem_range.mp hk) (List.mem_range.mp ha)
 rw [<-ZMD] at hL;have hw:=ZCp (xs:=(List.range h.n).map lv) (λv hv=>by obtain ⟨k,hk,rfl⟩:=List.mem_map.mp hv;exact p.lv0 k (List.mem_range.mp hk)) G
 rw [<-S8] at hw;have hz:=ZAk (xs:=(List.range h.n).map lv) G;have hal:=ZCU (xs:=(List.range h.n).map lv);have ea:=Z5 (ks:=((List.range h.n).map lv).map λ_=>true) (G:=G);rw [hal] at ea;have hts:((((List.range h.n).map lv).map λ_=>true).map D.bl).length<=1000000:=by simp;lia
 generalize ((((List.range h.n).map lv).map λ_=>true).map D.bl)=ts at hw hz ea hts;have l1:(tab h.n lv).length=h.n:=ZLa;have l2:(Ci h.n co).length=h.n:=ZNJ;unfold stD at hL ⊢;generalize tab h.n lv=A at hL hw l1;generalize Ci h.n co=B at hL l2;unfold Vv ZF1 ZDo;rw [Br];simp [hts,l1,l2,hL,Bf,hw,hz,ea,Bx]
theorem ZFS {n:Nat} (hk:k < n) {b d f:Int} (e1:pg k= [a,b,c,d,e,f]):atI (Cu n pg) (k:Int)=some (.tup [.int a,.int b,.int c,.int d,.int e,.int f]):=Fe rfl (by unfold Cu;rw [List.getElem?_map,List.getElem?_range hk];simp [Jd,e1])
theorem sum_list {n:Nat} :((List.range n).map F).sum=Ak n F:=Yi.symm
theorem ZGJ {n:Nat} (hn:n<=12) (G:DH):Sd [stD n lv co] G=.ok (.int (Hq n lv co)) G:=by
 have s1:H8 [.tup (tab n lv)] G=.ok (.int (Ak n lv)) G:=by rw [S8,ZBl,sum_list]
 have c1:Eb (gV 0) Ce ZCN [none] (Ci n co) G=.ok (tab n λk=>sum5 (co k)) G:=Oo (E:=λk=>D.tup (tab 5 (co k))) (F:=λk=>.int (sum5 (co k))) λk _=>by
  have e5:∀G,H8 [.tup (tab 5 (co k))] G=.ok (.int (sum5 (co k))) G:=λG=>by
   rw [S8,ZBl];have:((List.range 5).map (co k)).sum=sum5 (co k):=by show co k 0 + (co k 1 + (co k 2 + (co k 3 + (co k 4 + 0))))=_;unfold sum5;lia
   rw [this]
  unfold ZCN;simp [e5]
 have fz:freeze G (.ok (.ref G.length) (G++ [.lst (tab n λk=>sum5 (co k))]))=.ok (.fl (tab n λk=>sum5 (co k))) G:=Gy Ml;have s2:H8 [.fl (tab n λk=>sum5 (co k))] G=.ok (.int (Ak n λk=>sum5 (co k))) G:=by rw [S8,ZEf,sum_list]
 unfold stD;have hT:(tab n λk=>sum5 (co k)).length<=1000000:=by simp;lia
 generalize (tab n λk=>sum5 (co k))=T at c1 fz s2 hT;generalize tab n lv=A at s1;generalize Ci n co=B at c1;unfold Sd ZFq;rw [Br];simp [hT,s1,Bf,c1,fz,s2,Bx,Hq]
theorem ZEd (g:GoodH h) (p:PageOk h pg) {G:DH}:∀(m k:Nat) (x y z:Option D),k + m=h.n->∃x' y' z',Bh (gV 2) Ni (Cq k m) [some h.enc,some (pgD h.n pg),x,y,z] G=.nx [some h.enc,some (pgD h.n pg),x',y',z'] G
 | 0,k,x,y,z,e=>⟨x,y,z,by rw [Lz,Ed]⟩
 | m + 1,k,x,y,z,e=>by
  have hk:k < h.n:=by lia
  obtain ⟨a,b,c,d,e',f,e1,_⟩:=p.row k hk;have ap:atI h.Dh (k:Int)=some (h.encP (h.pl k)):=Hs.Ey hk;have ar:=ZFS (n:=h.n) hk e1;have hb:∃q:Int,Ni [some h.enc,some (pgD h.n pg),some (.int k),y,z] G=.nx [some h.enc,some (pgD h.n pg),some (.int k),some (.tup [.int a,.int b,.int c,.int d,.int e',.int f]),some (.int q)] G:=by
   unfold pgD;cases ek:(h.pl k).kd with
   | basin br r q=>
    have h1:=p.brim k br r q hk ek;rw [e1] at h1;simp only [List.getD_cons_succ,List.getD_cons_zero] at h1;have e4:∀G,Aj (h.encP (h.pl k)) (.int 4) G=.ok (.int br) G:=λG=>by unfold Hs.encP;rw [ek];simp
    have n1:¬br < f:=by lia
    refine ⟨br,?_⟩;unfold Ni;by_cases hc:0 < c
    ·have n2:=h1.2 hc;simp [Dm,ar,ap,e4,Iu,Mj,ek,Kd.isB,Kd.isT,n1,hc,n2]
    ·simp [Dm,ar,ap,e4,Iu,Mj,ek,Kd.isB,Kd.isT,n1,hc]
   | town ne rk=>
    have h1:=p.town k ne rk hk ek;rw [e1] at h1;simp only [List.getD_cons_succ,List.getD_cons_zero] at h1;have e4:∀G,Aj (h.encP (h.pl k)) (.int 4) G=.ok (.int ne) G:=λG=>by unfold Hs.encP;rw [ek];simp
    have n1:¬ne < b:=by lia
    refine ⟨ne,?_⟩;unfold Ni;simp [Dm,ar,ap,e4,Iu,Mj,ek,Kd.isB,Kd.isT,n1]
   | mill mo=>
    have e4:∀G,Aj (h.encP (h.pl k)) (.int 4) G=.ok (.int mo) G:=λG=>by unfold Hs.encP;rw [ek];simp
    refine ⟨mo,?_⟩;unfold Ni;simp [Dm,ar,ap,e4,Iu,Mj,ek,Kd.isB,Kd.isT]
  obtain ⟨q,hb⟩:=hb;obtain ⟨x',y',z',ih⟩:=ZEd g p (G:=G) m (k + 1) (some (.int k)) (some (.tup [.int a,.int b,.int c,.int d,.int e',.int f])) (some (.int q)) (by lia);refine ⟨x',y',z',?_⟩;rw [Ko,Dk];simp only [Ds,R.Di,List.set,hb,Dv];have e2:((k:Int) + 1)=((k + 1:Nat):Int):=by lia
  rw [e2,ih]
theorem ZN4 (g:GoodH h) (p:PageOk h pg) (G:DH):W5 [h.enc,pgD h.n pg] G=.ok (.bl true) G:=by obtain ⟨x',y',z',hL⟩:=ZEd g p (G:=G) h.n 0 none none none (by lia);have hL':Bh (gV 2) Ni (Cq 0 h.n) _ _=_:=hL;have hlen:(Cu h.n pg).length=h.n:=Vq;have hr:inR (h.n:Int):=Hz (by lia) (by have:=g.len;lia);unfold pgD at hL' ⊢;unfold W5 ZGk;rw [Br];simp [hlen,hr,hL',Bx]
theorem ZFG (g:GoodH h) (p:PageOk h pg) {s0 s2 s3 s4 s5:Option D} {G:DH}:∀(m k:Nat) (v:Int) (x:Option D),k + m=h.n->∃x',Bh (gV 8) Py (Cq k m) [s0,some h.enc,s2,s3,s4,s5,some (.int (v - Ak k (Et h pg))),some (pgD h.n pg),x] G=.nx [s0,some h.enc,s2,s3,s4,s5,some (.int (v - Ak h.n (Et h pg))),some (pgD h.n pg),x'] G
 | 0,k,v,x,e=>by
  have e1:k=h.n:=by lia
  subst e1;exact ⟨x,by rw [Lz,Ed]⟩
 | m + 1,k,v,x,e=>by
  have hk:k < h.n:=by lia
  obtain ⟨x',ih⟩:=ZFG g p (s0:=s0) (s2:=s2) (s3:=s3) (s4:=s4) (s5:=s5) (G:=G) m (k + 1) v (some (.int k)) (by lia);refine ⟨x',?_⟩;obtain ⟨a,b,c,d,e',f,e1,_⟩:=p.row k hk;have ap:atI h.Dh (k:Int)=some (h.encP (h.pl k)):=Hs.Ey hk;have ar:=ZFS (n:=h.n) hk e1;have hb:Py [s0,some h.enc,s2,s3,s4,s5,some (.int (v - Ak k (Et h pg))),some (pgD h.n pg),some (.int k)] G=.nx [s0,some h.enc,s2,s3,s4,s5,some (.int (v - Ak (k + 1) (Et h pg))),some (pgD h.n pg),some (.int k)] G:=by
   have es:Ak (k + 1) (Et h pg)=Ak k (Et h pg) + Et h pg k:=rfl;rw [es];unfold Et By pgD;rw [e1];generalize Ak k (λk=>(pg k).getD 1 0 + if h.dn k=none then (pg k).getD 2 0 + (pg k).getD 3 0 else 0)=X;cases hd:(h.pl k).dn with
   | none=>
    have hd':h.dn k=none:=hd;unfold Py;simp [Dm,ar,ap,hd,hd',Hs.dnT];lia
   | some q=>
    have hd':h.dn k=some q:=hd;have hq:=g.sea q (g.dn k q hk hd).2;unfold Py;simp [Dm,ar,ap,hd,hd',Hs.dnT,hq];lia
  rw [Ko,Dk];simp only [Ds,R.Di,List.set,hb,Dv];have e2:((k:Int) + 1)=((k + 1:Nat):Int):=by lia
  rw [e2,ih]
theorem ZHw (g:GoodH h) {s0 s2 s3 s4 s5:Option D} {G:DH}:∀(pgs:List (Nat->List Int)) (v:Int) (x y:Option D),(∀pg∈pgs,PageOk h pg)->∃x' y',Bh (gV 7) Uk (pgs.map (pgD h.n)) [s0,some h.enc,s2,s3,s4,s5,some (.int v),x,y] G=.nx [s0,some h.enc,s2,s3,s4,s5,some (.int (v - (pgs.map λpg=>Ak h.n (Et h pg)).sum)),x',y'] G
 | [],v,x,y,_=>⟨x,y,by rw [List.map_nil,Ed];simp⟩
 | pg::pgs,v,x,y,hp=>by
  have p:=hp pg (by simp);obtain ⟨z,hL⟩:=ZFG g p (s0:=s0) (s2:=s2) (s3:=s3) (s4:=s4) (s5:=s5) (G:=G) h.n 0 v y (by lia);have hL':Bh (gV 8) Py (Cq 0 h.n) [s0,some h.enc,s2,s3,s4,s5,some (.int v),some (pgD h.n pg),y] G=.nx [s0,some h.enc,s2,s3,s4,s5,some (.int (v - Ak h.n (Et h pg))),some (pgD h.n pg),z] G:=by
   have:=hL
   rwa [show Ak 0 (Et h pg)=0 from rfl,show v - 0=v by lia] at this
  obtain ⟨x',y',ih⟩:=ZHw g (s0:=s0) (s2:=s2) (s3:=s3) (s4:=s4) (s5:=s5) (G:=G) pgs (v - Ak h.n (Et h pg)) (some (pgD h.n pg)) z λq hq=>hp q (List.mem_cons_of_mem _ hq)
  refine ⟨x',y',?_⟩;have hlen:(Cu h.n pg).length=h.n:=Vq;have hr:inR (h.n:Int):=Hz (by lia) (by have:=g.len;lia);have hb:Uk [s0,some h.enc,s2,s3,s4,s5,some (.int v),some (pgD h.n pg),y] G=.nx [s0,some h.enc,s2,s3,s4,s5,some (.int (v - Ak h.n (Et h pg))),some (pgD h.n pg),z] G:=by have cp:=ZIZ p G;have ck:=ZN4 g p G;unfold pgD at hL' cp ck ⊢;unfold Uk;simp [Dm,Hs.Lx,cp,ck,hlen,hr,hL']
  rw [List.map_cons,Dk];simp only [Ds,R.Di,List.set,hb,Dv];rw [ih,List.map_cons,List.sum_cons];have e:v - Ak h.n (Et h pg) - (pgs.map λpg=>Ak h.n (Et h pg)).sum=v - (Ak h.n (Et h pg) + (pgs.map λpg=>Ak h.n (Et h pg)).sum):=by lia
  rw [e]
theorem ZNG (t:Told h yr):NoPump h:=λk b r hk e s hs=>by obtain ⟨nm,ok⟩:=t.ok;exact (((ok k hk).basin b r none e).2.1.good s hs).2 rfl
theorem ZMC (hl:ns.length<=63) (G:DH):Mx [.fl (ns.map D.int)] G=.ok (.bl true) G:=by
 obtain ⟨f,hf⟩:=cells hl;obtain ⟨u,hu1,cu⟩:=ZJs hf;have hu:0 < u:=by lia
 obtain ⟨yr,hyr,cy⟩:=ZKH hf;obtain ⟨h,ht,ch⟩:=ZLt hf hyr cy hu cu;have g:=ht.good;obtain ⟨a,ha,ca⟩:=ZL0 hf;obtain ⟨t,ht1,ht2,et⟩:∃t:Nat,6 + 14 * h.n + t * h.n<=1000/\t<=100/\(t:Int)=f 2 % 7:=by
  have hn:=g.len;have h6:(f 2 % 7).toNat<=6:=by lia
  have hm:=Nat.mul_le_mul h6 hn;exact ⟨(f 2 % 7).toNat,by lia,by lia,by lia⟩
 have cs:=ZLn hf hu cu g;have cf:=ZIn hf hu cu g ht1 ht2;have f2:∀G,Bg [.fl (ns.map D.int),.int 2] G=.ok (.int (f 2)) G:=hf 2 (by lia);generalize hfl:(List.range t).map (flS h.n f u)=fls at cf;have hfn:∀fl∈fls,∀k,k < h.n->0<=fl k:=λfl hm k _=>by rw [<-hfl] at hm;obtain ⟨i,_,rfl⟩:=List.mem_map.mp hm;exact ZMn hu i k
 have hlen:fls.length=t:=by rw [<-hfl];simp
 have so:StOk h (lvS h f u) (coS h f u):=⟨λk hk=>(ZF0 g hk).1,λk hk=>(ZF0 g hk).2.2,λk j _ _=>ZO0 hu k j⟩;have cr:=ZJe g (s:=(lvS h f u,coS h f u)) (a:=a) (fls:=fls) (by lia) so.co0 hfn;have ro:=ZEw g fls (lvS h f u,coS h f u) a so hfn;have rs:=ZGy g (ZNG ht) fls (lvS h f u,coS h f u) a so hfn;obtain ⟨x',y',hL⟩:=ZHw g (s0:=some (.fl (ns.map D.int))) (s2:=some (stD h.n (lvS h f u) (coS h f u))) (s3:=some (.fl (Dy h.n fls))) (s4:=some (.fl ((h.Ga fls (lvS h f u,coS h f u) a).map (pgD h.n)))) (s5:=some (stD h.n (h.El fls (lvS h f u,coS h f u) a).1 (h.El fls (lvS h f u,coS h f u) a).2)) (G:=G) (h.Ga fls (lvS h f u,coS h f u) a) (Hq h.n (lvS h f u) (coS h f u) + (fls.map (Ak h.n)).sum) none none ro.1
 have ctd:=ZNn g.len ro.2 G;have csm:=ZGJ (n:=h.n) g.len (lv:=(h.El fls (lvS h f u,coS h f u) a).1) (co:=(h.El fls (lvS h f u,coS h f u) a).2) G;have cs0:=ZGJ (n:=h.n) g.len (lv:=lvS h f u) (co:=coS h f u) G;have l1:((h.Ga fls (lvS h f u,coS h f u) a).map (pgD h.n)).length=t:=by rw [List.length_map,ZGz,hlen]
 have bps:bels G.length ((h.Ga fls (lvS h f u,coS h f u) a).map (pgD h.n))=true:=ZNR;have be:bel G.length (stD h.n (h.El fls (lvS h f u,coS h f u) a).1 (h.El fls (lvS h f u,coS h f u) a).2)=true:=ZJQ;have fr:=ZM6 bps be;have cr1:=cr G;have sf:Eb (gV 0) Ce ZBY [none] (Dy h.n fls) G=.ok ((fls.map (Ak h.n)).map D.int) G:=by
  rw [List.map_map];exact Oo (E:=λfl=>D.tup (tab h.n fl)) (F:=λfl=>.int (Ak h.n fl)) λfl _=>by
   have e5:∀G,H8 [.tup (tab h.n fl)] G=.ok (.int (Ak h.n fl)) G:=λG=>by rw [S8,ZBl,sum_list]
   unfold ZBY;simp [e5]
 have fzs:freeze G (.ok (.ref G.length) (G++ [.lst ((fls.map (Ak h.n)).map D.int)]))=.ok (.fl ((fls.map (Ak h.n)).map D.int)) G:=Gy ZCi;have sm:H8 [.fl ((fls.map (Ak h.n)).map D.int)] G=.ok (.int (fls.map (Ak h.n)).sum) G:=ZEf;rw [<-rs] at hL;have lfl:(Dy h.n fls).length=t:=by rw [ZJK,hlen]
 have bfl:bels G.length (Dy h.n fls)=true:=ZJR;have fz0:freeze G (.ok (.ref G.length) (G++ [.lst (Dy h.n fls)]))=.ok (.fl (Dy h.n fls)) G:=Gy bfl;clear rs ro cr;generalize Dy h.n fls=FL at cf hL cr1 lfl fz0 sf;have hSS:((fls.map (Ak h.n)).map D.int).length<=1000000:=by simp;lia
 generalize (fls.map (Ak h.n)).map D.int=SS at sf fzs sm hSS;generalize (fls.map (Ak h.n)).sum=SM at sm hL;generalize Hq h.n (h.El fls (lvS h f u,coS h f u) a).1 (h.El fls (lvS h f u,coS h f u) a).2=T1 at hL csm;generalize Hq h.n (lvS h f u) (coS h f u)=T0 at hL cs0;generalize stD h.n (h.El fls (lvS h f u,coS h f u) a).1 (h.El fls (lvS h f u,coS h f u) a).2=E1 at hL csm ctd cr1 fr;generalize (h.Ga fls (lvS h f u,coS h f u) a).map (pgD h.n)=PS at hL cr1 fr l1
 dsimp only at cr1;generalize stD h.n (lvS h f u) (coS h f u)=E0 at hL cs0 cs cr1;unfold Mx ZFU;rw [Br];simp [hSS,ch,cs,f2,<-et,cf,fz0,ca,cr1,fr,l1,lfl,cs0,Bf,sf,fzs,sm,hL,Dm,Hs.Lx,ctd,csm,Bx]
theorem holds:Holds:=λns hl=>⟨[],ZMC hl []⟩
end Law
namespace Law
open PySem L2 DL
seal QE QT QA QS QSs QG QGs QI QTs QW QO
structure Txt (K:PySem.W.Frag) (mg:Str->Option Value):Prop where
 Q6:FT K mg "_law_off" ZCA ZCl
 Kp:FT K mg "_law_tape" Zt Yd
 Be:FT K mg "_law_cell_at" ZBw ZCc
 Ho:FT K mg "_law_amount" ZA1 ZCX
 Hi:FT K mg "_law_unit" ZBt ZBn
 Qn:FT K mg "_law_floods" Sv ZAF
 Ot:FT K mg "_law_pumped" ZAa ZBG
 Ox:FT K mg "_law_steps" ZCT ZCB
 Ks:FT K mg "_law_year" Zg ZAl
 Oq:FT K mg "_law_rule" Sh ZA0
 Pz:FT K mg "_law_basin" Wk ZBu
 Ph:FT K mg "_law_name" ZCZ Ys
 Qj:FT K mg "_law_house" V6 ZAD
 Q8:FT K mg "_law_keeps" ZCS ZAn
 Qw:FT K mg "_law_number" ZAW ZB5
 J9:FT K mg "_law_whole" ZBk ZC0
 Od:FT K mg "_law_page" Ws Zf
 R1:FT K mg "_law_state" ZAM Yl
 Kz:FT K mg "_law_sum" V3 Zc
 Ql:FT K mg "_law_told_state" U8 ZCH
 Ss:MT K "Course" "__init__" "Course.__init__" T7 ZB9
 Ng:MT K "Course" "send" "Course.send" ZBM ZBT
 Lb:FT K mg "number_of" ZAj Yk
 Le:FT K mg "down_of" ZBs ZCF
 O5:MT K "Course" "send_down" "Course.send_down" ZAC ZBK
 Oz:FT K mg "opened" ZBp ZB3
 Qm:FT K mg "stairs_at" ZCr ZAy
 Tj:MT K "Course" "go_basin" "Course.go_basin" ZCb ZAU
 Lk:FT K mg "passed" Wn ZBA
 Kl:FT K mg "down_in_reach" ZBX ZAZ
 Q0:FT K mg "reach_rows" ZBo ZCx
 Qv:FT K mg "served" Rx ZAs
 Pj:FT K mg "way_down" Zi ZBD
 Oi:FT K mg "shares" Uo ZBN
 Tz:MT K "Course" "go_reach" "Course.go_reach" ZCM ZAq
 Qf:FT K mg "lasts_of_reaches" ZAS Zn
 Rn:MT K "Course" "go" "Course.go" Wf Zw
 Sw:MT K "Course" "state_behind" "Course.state_behind" Rj Z3
 Qd:FT K mg "turn" ZA5 ZBm
 Q3:FT K mg "run" ZB0 ZCv
 Sg:FT K mg "law" Io ZBC
 Ax:CT K mg "Course"
 Ou:NoAttr K (Bk K "Course") "came"
 U4:NoAttr K (Bk K "Course") "coming"
 Jy:NoAttr K (Bk K "Course") "house"
 W4:NoAttr K (Bk K "Course") "levels"
 O4:NoAttr K (Bk K "Course") "page"
 Ww:NoAttr K (Bk K "Course") "reaches"
 V2:NoAttr K (Bk K "Course") "year_turn"
 ZCK:mg "all"=none
 ZNd:mg "bool"=none
 Q4:mg "enumerate"=none
 ZLx:mg "int"=none
 Kh:mg "isinstance"=none
 Dt:mg "len"=none
 ZBB:mg "list"=none
 ZE8:mg "max"=none
 Tw:mg "min"=none
 Hk:mg "range"=none
 ZKZ:mg "sorted"=none
 Tv:mg "sum"=none
 Gf:mg "tuple"=none
 ZBF:mg "zip"=none
 ZBd:mg "BRIM"=some (.int 4 (Ej K "BRIM"))
 Wr:mg "DELAY"=some (.int 3 (Ej K "DELAY"))
 ZBq:mg "DOWN"=some (.int 2 (Ej K "DOWN"))
 Qa:mg "KIND"=some (.int 0 (Ej K "KIND"))
 ZCj:mg "LIES"=some (.int 5 (Ej K "LIES"))
 ZBU:mg "NAME"=some (.int 1 (Ej K "NAME"))
 ZBx:mg "NEED"=some (.int 4 (Ej K "NEED"))
 Jp:mg "PLACES"=some (.int 1 (Ej K "PLACES"))
 S7:mg "PUMP"=some (.int 6 (Ej K "PUMP"))
 ZAB:mg "PUMP_DELAY"=some (.int 1 (Ej K "PUMP_DELAY"))
 ZA6:mg "PUMP_TO"=some (.int 0 (Ej K "PUMP_TO"))
 ZBh:mg "RANK"=some (.int 5 (Ej K "RANK"))
 Q7:mg "ROW_DOWN"=some (.int 0 (Ej K "ROW_DOWN"))
 ZBP:mg "ROW_NEED"=some (.int 2 (Ej K "ROW_NEED"))
 ZAo:mg "ROW_RANK"=some (.int 3 (Ej K "ROW_RANK"))
 ZBe:mg "ROW_WATER"=some (.int 1 (Ej K "ROW_WATER"))
 ZAu:mg "RULE"=some (.int 5 (Ej K "RULE"))
 ZCw:mg "SEA"=some (.str "sea" (Ej K "SEA"))
 Yr:mg "YEAR"=some (.int 0 (Ej K "YEAR"))
section
variable {P:Program} {w:World} {K:PySem.W.Frag} {mg:Str->Option Value} {base:Heap}
theorem ZNx (T:Txt K mg):FnO P w K mg base 1 "_law_off" ZCl Tq:=by
 refine Cm T.Q6.F R6 λcdv A outer s H E hr=> ?_
 exact (Ai (Bu (ZJi o_le Lw Ad (Aa 0) (Ag Ob Ad Ad)) (Ai (Ao 0 R6.nd (Ag Bt (Ag Bd (Ag Bd (Aa 0) (Ag Dz Ad (Aa 1))) Ad) Ad)) (Ai (Ao 0 R6.nd (Ag Bt (Ag Dz (Aa 0) (Aa 0)) Ad)) (An (Bj (Ag Bt (Ag Dz (Aa 0) (Ag Bd (Aa 0) (Aa 1))) Ad))))) Cj) (Ai (Eo PassesOwn.never rfl (Ie rfl T.Hk (Ac (Aa 1) Af)) (Az 2 R6.nd) (An (Ao 0 R6.nd (Ag Dp (Aa 0) (Ag Ob Ad Ad))))) (An (Bj (Ag Bt (Aa 0) (Ag Ob Ad Ad))))))
theorem ZEA (T:Txt K mg):FnO P w K mg base 1 "_law_tape" Yd N5:=by
 refine Cm T.Kp.F ZNZ λcdv A outer s H E hr=> ?_
 exact (An (Bj (Ro (O3 Lh (Bm Dr rfl T.Dt Do (Ac (Aa 0) Af)) Ad (nomark _)) (S9 (ZLz (O3 Lw (Al Am (Aa 0) Ad) Ad (nomark _)) (S9 (O3 o_ge (Al Am (Aa 0) Ad) (Ag Ob Ad Ad) (nomark _))))))))
theorem Fi (T:Txt K mg):FnO P w K mg base 2 "_law_cell_at" ZCc Bg:=by
 refine Cm T.Be.F T8 λcdv A outer s H E hr=> ?_
 exact (Ai (Bu (Hg (Ba (ZEA T) (hr.mono (by decide)) rfl T.Kp.m T.Kp.k T.Kp.b pass0 (Ac (Aa 0) Af))) (Ai (Ao 2 T8.nd Ad) (Ai (Bu (Bp Lw (Ag Bd Ad (Ag Dp (Aa 1) Ad)) (Bm Dr rfl T.Dt Do (Ac (Aa 0) Af)) (nomark _)) (An (Ao 2 T8.nd (Al Am (Aa 0) (Ag Bd Ad (Ag Dp (Aa 1) Ad))))) Cj) (An (Bj (Ba (ZNx T) (hr.mono (by decide)) rfl T.Q6.m T.Q6.k T.Q6.b pass0 (Ac (Aa 2) (Ac (Ag Bt (Aa 1) Ad) Af))))))) Cj) (Ai (Bu (Bp Lw (Aa 1) (Bm Dr rfl T.Dt Do (Ac (Aa 0) Af)) (nomark _)) (An (Bj (Al Am (Aa 0) (Aa 1)))) Cj) (Ai (Ao 2 T8.nd (Ag Bt (Ag Dz Ad (Ag Bd (Ag Dz (Aa 1) (Aa 1)) (Ag Dz Ad (Bm Dr rfl T.Dt Do (Ac (Aa 0) Af))))) Ad)) (Ai (Bu (Bp Lh (Bm Dr rfl T.Dt Do (Ac (Aa 0) Af)) Ad (nomark _)) (An (Ao 2 T8.nd (Ag Bd (Aa 2) (Ag Bt (Ag Dz (Al Am (Aa 0) (Ag Bt (Aa 1) (Bm Dr rfl T.Dt Do (Ac (Aa 0) Af)))) Ad) Ad)))) Cj) (An (Bj (Aa 2)))))))
theorem Xf (T:Txt K mg):FnO P w K mg base 1 "_law_amount" ZCX Mz:=by
 refine Cm T.Ho.F ZMK λcdv A outer s H E hr=> ?_
 exact (An (Bj (Ag Bd (Ag Dz (Aa 1) (Ag Bt (Aa 0) Ad)) (Ag Bt (Ag Dp (Aa 0) Ad) (Aa 1)))))
theorem Wj (T:Txt K mg):FnO P w K mg base 3 "_law_unit" ZBn Gs:=by
 refine Cm T.Hi.F ZK6 λcdv A outer s H E hr=> ?_
 exact (An (Bj (Al Am (De (Fp (Ac Ad (Ac Ad (Ac (Ag Ob Ad Ad) Af))))) (Ag Bt (Ag Dp (Ba (Fi T) (hr.mono (by decide)) rfl T.Be.m T.Be.k T.Be.b pass0 (Ac (Aa 0) (Ac Ad Af))) Ad) Ad))))
theorem ZPU (T:Txt K mg):FnO P w K mg base 4 "_law_floods" ZAF Vr:=by
 refine Cm T.Qn.F Qs λcdv A outer s H E hr=> ?_
 exact (Ai (Ao 3 Qs.nd (Bm Dr rfl T.Dt Do (Ac (Al Am (Aa 1) Ad) Af))) (Ai (Ao 4 Qs.nd (Ag Bd Ad (Ag Dz Ad (Aa 3)))) (Ai (Ao 5 Qs.nd (Gq (Fp Af))) (Ai (Eo PassesOwn.never rfl (Ie rfl T.Hk (Ac (Aa 2) Af)) (Az 6 Qs.nd) (Ai (Ub (U0 7 rfl Qs.nd (Fg (dn:=(Av Sv).names) (N0:=Uw) (N:= ["_law_k","_law_script","_law_many","_law_b","_law_at"]) (nt:=1) (caps:= [0,3,4,6])) (Ie rfl T.Hk (Ac (Aa 3) Af)) (λC s₀ H₀ ex=>(Az 0 (show (["_law_k","_law_script","_law_many","_law_b","_law_at"]:List Str).Nodup by decide +kernel))) (Ek (by decide)) (λC s₀ H₀ ex=>Fw) (λC s₀ H₀ ex=>(Ba (Fi T) (hr.mono (by decide)) rfl T.Be.m T.Be.k T.Be.b pass0 (Ac (Aa 1) (Ac (Ag Bd (Ag Bd (Aa 3) (Ag Dz (Aa 4) (Aa 2))) (Aa 0)) Af)))))) (An (Ew (Hr PySem.F.slot_list_append PySem.F.type_list_append Hv (Aa 5) (Ac (J6 Jg rfl T.Gf Gi (Ac (De (Hh rfl (Fg (dn:=(Av Sv).names) (N0:=Uw) (N:= ["_law_cell","_law_script"]) (nt:=1) (caps:= [0])) (Eu (Aa 7)) (λC s₀ H₀ ex=>(Az 0 (show (["_law_cell","_law_script"]:List Str).Nodup by decide +kernel))) (Ek (by decide)) (λC s₀ H₀ ex=>Fw) (λC s₀ H₀ ex=>(Ba (Xf T) (hr.mono (by decide)) rfl T.Ho.m T.Ho.k T.Ho.b pass0 (Ac (Aa 0) (Ac (De (Ba (Wj T) (hr.mono (by decide)) rfl T.Hi.m T.Hi.k T.Hi.b pass0 (Ac (Aa 1) Af))) Af)))))) Af)) Af)))))) (An (Bj (Aa 5)))))))
theorem ZN0 (T:Txt K mg):FnO P w K mg base 1 "_law_pumped" ZBG Xr:=by
 refine Cm T.Ot.F Qe λcdv A outer s H E hr=> ?_
 exact (Ai (Ao 1 Qe.nd Ad) (Ai (Eo PassesOwn.never rfl (Eu (Aa 0)) (Gm rfl (Cr (Az 2 Qe.nd) (Cr (Az 3 Qe.nd) (Cr (Az 4 Qe.nd) Gr)))) (An (Bu (Bp (Dw hr.units) (Aa 4) Ft (nomark _)) (An (Ao 1 Qe.nd (Ag Bd (Aa 1) (Aa 3)))) Cj))) (An (Bj (Aa 1)))))
theorem ZIJ (T:Txt K mg):FnO P w K mg base 1 "_law_steps" ZCB Y8:=by
 refine Cm T.Ox.F Ku λcdv A outer s H E hr=> ?_
 exact (Ai (Ao 3 Ku.nd (Gq (Fp Af))) (Ai (Ao 4 Ku.nd Ad) (Ai (Eo PassesOwn.never rfl (Ie rfl T.Hk (Ac (Ag Bt (Al Am (Aa 0) Ad) Ad) Af)) (Az 5 Ku.nd) (Ai (Ao 4 Ku.nd (Ag Bd (Aa 4) (Ag Dz (Aa 1) (Ag Bt (Al Am (Aa 0) (Ag Bd Ad (Aa 5))) Ad)))) (Ai (Ao 6 Ku.nd (Ag Bd Ad (Ag Dz (Aa 1) (Ag Bt (Ag Dp (Al Am (Aa 0) (Ag Bd Ad (Aa 5))) Ad) Ad)))) (Ai (Ao 7 Ku.nd Ft) (Ai (Bu (Gn (Nm (Hg (Aa 2)) (R0 (Bp (Dw hr.units) (Ag Bt (Ag Dp (Al Am (Aa 0) (Ag Bd Ad (Aa 5))) Ad) Ad) Ad (nomark _))))) (An (Ao 7 Ku.nd Ft)) Cj) (Ai (Ew (Hr PySem.F.slot_list_append PySem.F.type_list_append Hv (Aa 3) (Ac (Fd (Ac (Aa 4) (Ac (Aa 6) (Ac (Aa 7) Af)))) Af))) (An (Ao 4 Ku.nd (Ag Bd (Aa 4) (Aa 6)))))))))) (An (Bj (J6 Jg rfl T.Gf Gi (Ac (Aa 3) Af)))))))
theorem ZGM (T:Txt K mg):FnO P w K mg base 3 "_law_year" ZAl K6:=by
 refine Cm T.Ks.F ZDV λcdv A outer s H E hr=> ?_
 exact (Ai (Ao 1 ZDV.nd (Ba (Fi T) (hr.mono (by decide)) rfl T.Be.m T.Be.k T.Be.b pass0 (Ac (Aa 0) (Ac Ad Af)))) (Ai (Bu (Bp (Dw hr.units) (Ag Bt (Ag Dp (Aa 1) Ad) Ad) Ad (nomark _)) (An (Bj (Ag Bd Ad (Ag Bt (Ag Dp (Aa 1) Ad) Ad)))) Cj) (An (Bj (Ag Bd Ad (Ag Bt (Aa 1) Ad))))))
theorem ZLT (T:Txt K mg):FnO P w K mg base 4 "_law_rule" ZA0 V1:=by
 refine Cm T.Oq.F Jq λcdv A outer s H E hr=> ?_
 exact (Ai (Ao 4 Jq.nd (Ba (ZGM T) (hr.mono (by decide)) rfl T.Ks.m T.Ks.k T.Ks.b pass0 (Ac (Aa 0) Af))) (Ai (Ao 5 Jq.nd (Gq (Fp Af))) (Ai (Ao 6 Jq.nd Ad) (Ai (Eo PassesOwn.never rfl (Ie rfl T.Hk (Ac Ad Af)) (Az 7 Jq.nd) (Ai (Ao 8 Jq.nd (Ag Bt (Ag Dz (Ag Dz (Ba (Fi T) (hr.mono (by decide)) rfl T.Be.m T.Be.k T.Be.b pass0 (Ac (Aa 0) (Ac (Ag Bd (Aa 1) Ad) Af))) Ad) (Ag Bd (Ag Dz (Aa 7) (Aa 7)) Ad)) Ad)) (Ai (Ub (U0 9 rfl Jq.nd (Fg (dn:=(Av Sh).names) (N0:=Xx) (N:= ["_law_k","_law_script","_law_b","_law_j"]) (nt:=1) (caps:= [0,1,7])) (Ie rfl T.Hk (Ac Ad Af)) (λC s₀ H₀ ex=>(Az 0 (show (["_law_k","_law_script","_law_b","_law_j"]:List Str).Nodup by decide +kernel))) (Ek (by decide)) (λC s₀ H₀ ex=>Fw) (λC s₀ H₀ ex=>(Ag Dp (Ba (Fi T) (hr.mono (by decide)) rfl T.Be.m T.Be.k T.Be.b pass0 (Ac (Aa 1) (Ac (Ag Bd (Ag Bd (Aa 2) Ad) (Ag Bt (Ag Bd (Ag Dz Ad (Aa 3)) (Aa 0)) Ad)) Af))) (Ag Bd Ad (Ag Dz Ad (Ag Dp (Aa 3) Ad))))))) (Ai (Bu (Hg (Ba (ZEA T) (hr.mono (by decide)) rfl T.Kp.m T.Kp.k T.Kp.b pass0 (Ac (Aa 0) Af))) (Ai (Ao 8 Jq.nd (Ag Dp (Ba (Fi T) (hr.mono (by decide)) rfl T.Be.m T.Be.k T.Be.b pass0 (Ac (Aa 0) (Ac (Ag Bd (Aa 1) Ad) Af))) (Al Am (De (Fp (Ac Ad (Ac Ad (Ac Ad (Ac Ad Af)))))) (Aa 7)))) (An (Ub (U0 9 rfl Jq.nd (Fg (dn:=(Av Sh).names) (N0:=Xx) (N:= ["_law_k","_law_script","_law_b","_law_j"]) (nt:=1) (caps:= [0,1,7])) (Ie rfl T.Hk (Ac Ad Af)) (λC s₀ H₀ ex=>(Az 0 (show (["_law_k","_law_script","_law_b","_law_j"]:List Str).Nodup by decide +kernel))) (Ek (by decide)) (λC s₀ H₀ ex=>Fw) (λC s₀ H₀ ex=>(Ag Dp (Ba (Fi T) (hr.mono (by decide)) rfl T.Be.m T.Be.k T.Be.b pass0 (Ac (Aa 1) (Ac (Ag Bd (Ag Bd (Aa 2) Ad) (Aa 0)) Af))) (Al Am (De (Fp (Ac Ad (Ac Ad (Ac Ad (Ac Ad Af)))))) (Aa 3)))))))) Cj) (An (Bu (Gn (J1 (Bp (Dw hr.units) (Aa 7) Ad (nomark _)) (Jb (Gn (Nm (Bp (Dw hr.units) (Ag Bt (Aa 8) Ad) Ad (nomark _)) (R0 (Bp Lw (Ag Bd (Aa 6) Ad) (Aa 4) (nomark _)))))))) (Ai (Bu (Bp Lh (Aa 7) Ad (nomark _)) (An (Ao 6 Jq.nd (Ag Bd (Ag Bd (Aa 6) Ad) (Ag Bt (Ag Dp (Aa 8) Ad) (Ag Gp (Ag Gp (Aa 4) (Aa 6)) Ad))))) Cj) (An (Ew (Hr PySem.F.slot_list_append PySem.F.type_list_append Hv (Aa 5) (Ac (Fd (Ac (Aa 6) (Ac (Ba (ZIJ T) (hr.mono (by decide)) rfl T.Ox.m T.Ox.k T.Ox.b pass0 (Ac (Aa 9) (Ac (Aa 2) (Ac (Aa 3) Af)))) Af))) Af))))) Cj)))))) (An (Bj (J6 Jg rfl T.Gf Gi (Ac (Aa 5) Af))))))))
theorem ZJN (T:Txt K mg):FnO P w K mg base 5 "_law_basin" ZBu Sx:=by
 refine Cm T.Pz.F Jt λcdv A outer s H E hr=> ?_
 exact (Ai (Ao 5 Jt.nd (De (Ba (Wj T) (hr.mono (by decide)) rfl T.Hi.m T.Hi.k T.Hi.b pass0 (Ac (Aa 0) Af)))) (Ai (Ao 6 Jt.nd (Ba (Fi T) (hr.mono (by decide)) rfl T.Be.m T.Be.k T.Be.b pass0 (Ac (Aa 0) (Ac (Ag Bd (Aa 1) Ad) Af)))) (Ai (Ao 7 Jt.nd (Ro (O3 Lh (Bm Dr rfl T.Dt Do (Ac (Aa 3) Af)) Ad (nomark _)) (S9 (O3 (Dw hr.units) (Ag Bt (Aa 6) Ad) Ad (nomark _))))) (Ai (Ao 8 Jt.nd (Ba (ZLT T) (hr.mono (by decide)) rfl T.Oq.m T.Oq.k T.Oq.b pass0 (Ac (Aa 0) (Ac (Aa 1) (Ac (Aa 5) (Ac (Aa 7) Af)))))) (Ai (Ao 9 Jt.nd Im) (Ai (Bu (Hg (Aa 7)) (Ai (Ao 10 Jt.nd (Ag Bd (Bm (ZO5 rfl) rfl T.ZE8 ZFc (Ac (De (Hh rfl (Fg (dn:=(Av Wk).names) (N0:=Z6) (N:= ["_law_season"]) (nt:=1) (caps:= [])) (Eu (Aa 8)) (λC s₀ H₀ ex=>(Az 0 (show (["_law_season"]:List Str).Nodup by decide +kernel))) (Ek (by decide)) (λC s₀ H₀ ex=>Fw) (λC s₀ H₀ ex=>(Ba (ZN0 T) (hr.mono (by decide)) rfl T.Ot.m T.Ot.k T.Ot.b pass0 (Ac (Al Am (Aa 0) Ad) Af))))) Af)) (Ag Dz (Aa 5) (Ag Bt (Ag Dp (Aa 6) Ad) Ad)))) (Ai (Ao 11 Jt.nd (Al Am (Aa 3) (Ag Bt (Ag Bd (Ag Bd (Aa 2) Ad) (Ag Bt (Ag Dp (Aa 6) Ad) (Ag Gp (Bm Dr rfl T.Dt Do (Ac (Aa 3) Af)) Ad))) (Bm Dr rfl T.Dt Do (Ac (Aa 3) Af))))) (An (Ao 9 Jt.nd (Fd (Ac (Aa 11) (Ac (Ag Bd Ad (Ag Bt (Ag Dp (Aa 6) Ad) Ad)) (Ac (Aa 10) Af)))))))) Cj) (Ai (Ao 12 Jt.nd (Ba (Xf T) (hr.mono (by decide)) rfl T.Ho.m T.Ho.k T.Ho.b pass0 (Ac (Ba (Fi T) (hr.mono (by decide)) rfl T.Be.m T.Be.k T.Be.b pass0 (Ac (Aa 0) (Ac (Ag Bd (Aa 1) Ad) Af))) (Ac (Aa 5) Af)))) (An (Bj (Fd (Ac Ft (Ac (Al Am (Aa 3) (Aa 2)) (Ac (Al Am (Aa 4) Ad) (Ac (Al Am (Aa 4) Ad) (Ac (Aa 12) (Ac (Aa 8) (Ac (Aa 9) Af)))))))))))))))))
theorem ZLy (T:Txt K mg):FnO P w K mg base 1 "_law_name" Ys Wu:=by
 refine Cm T.Ph.F ZCV λcdv A outer s H E hr=> ?_
 exact (Ai (Ao 3 ZCV.nd (Al Am Ft (Ag Bt (Ag Dp (Aa 0) Ad) Ad))) (Ai (Bu (Gn (Nm (Bp (Dw hr.units) (Ag Bt (Aa 0) Ad) Ad (nomark _)) (R0 (Bp Lw (Aa 2) Ad (nomark _))))) (An (Bj (Ag Dz (Aa 3) (Ag Bd (Aa 1) Ad)))) Cj) (Ai (Ao 4 ZCV.nd (Al Am Ft (Ag Bt (Ag Bd (Ag Dz Ad (Aa 1)) (Ag Dp (Aa 0) Ad)) Ad))) (Ai (Bu (Bp (Dw hr.units) (Ag Bt (Aa 0) Ad) Ad (nomark _)) (An (Bj (Ag Bd (Aa 4) (Ag Dz (Aa 3) (Ag Bt (Ag Dp (Aa 0) Ad) Ad))))) Cj) (An (Bj (Ag Bd (Ag Bd (Ag Dz (Aa 3) (Ag Bt (Ag Dp (Aa 0) Ad) Ad)) (Aa 4)) (Ag Dz (Aa 3) (Ag Gp Ad (Ag Bt (Ag Dp (Aa 0) Ad) Ad))))))))))
theorem ZO3 (T:Txt K mg):FnO P w K mg base 6 "_law_house" ZAD V7:=by
 refine Cm T.Qj.F Gu λcdv A outer s H E hr=> ?_
 exact (Ai (Ao 1 Gu.nd (Ba (Fi T) (hr.mono (by decide)) rfl T.Be.m T.Be.k T.Be.b pass0 (Ac (Aa 0) (Ac Ad Af)))) (Ai (Ao 2 Gu.nd (Ag Bd Ad (Ag Bt (Aa 1) Ad))) (Ai (Bu (Bp (Dw hr.units) (Ag Bt (Ag Dp (Aa 1) Ad) Ad) Ad (nomark _)) (An (Ao 2 Gu.nd (Ag Bd Ad (Ag Bt (Ag Dp (Aa 1) Ad) Ad)))) Cj) (Ai (Ub (U0 3 rfl Gu.nd (Fg (dn:=(Av V6).names) (N0:=ZCy) (N:= ["_law_k","_law_script","_law_many"]) (nt:=1) (caps:= [0,2])) (Ie rfl T.Hk (Ac (Aa 2) Af)) (λC s₀ H₀ ex=>(Az 0 (show (["_law_k","_law_script","_law_many"]:List Str).Nodup by decide +kernel))) (Ek (by decide)) (λC s₀ H₀ ex=>Fw) (λC s₀ H₀ ex=>(Ba (ZLy T) (hr.mono (by decide)) rfl T.Ph.m T.Ph.k T.Ph.b pass0 (Ac (Ba (Fi T) (hr.mono (by decide)) rfl T.Be.m T.Be.k T.Be.b pass0 (Ac (Aa 1) (Ac Ad Af))) (Ac (Aa 0) (Ac (Aa 2) Af))))))) (Ai (Ao 5 Gu.nd (Gq (Fp Af))) (Ai (Eo PassesOwn.never rfl (Ie rfl T.Hk (Ac (Aa 2) Af)) (Az 4 Gu.nd) (Ai (Ao 6 Gu.nd (Ag Bd Ad (Ag Dz Ad (Aa 4)))) (Ai (Ao 7 Gu.nd (Ag Bt (Ba (Fi T) (hr.mono (by decide)) rfl T.Be.m T.Be.k T.Be.b pass0 (Ac (Aa 0) (Ac (Ag Bd (Aa 6) Ad) Af))) (Ag Gp (Aa 2) (Aa 4)))) (Ai (Bu (Bp (Dw hr.units) (Ag Bt (Ag Dp (Aa 1) Ad) Ad) Ad (nomark _)) (An (Ao 7 Gu.nd (Bm (Uc rfl) rfl T.Tw Tf (Ac Ad (Ac (Ag Gp (Ag Gp (Aa 2) Ad) (Aa 4)) Af))))) Cj) (Ai (Ao 8 Gu.nd (Ba (Fi T) (hr.mono (by decide)) rfl T.Be.m T.Be.k T.Be.b pass0 (Ac (Aa 0) (Ac (Ag Bd (Aa 6) Ad) Af)))) (Ai (Ao 9 Gu.nd (Fd (Ac Ft (Ac (Ag Dz (Ag Bt (Aa 8) Ad) (Ag Bt (Ag Dp (Aa 8) Ad) Ad)) Af)))) (Ai (Bu (Bp Lh (Aa 7) Ad (nomark _)) (An (Ao 9 Gu.nd (Fd (Ac (Al Am (Aa 3) (Ag Bd (Aa 4) (Aa 7))) (Ac (Al Am (Aa 9) Ad) Af))))) Cj) (Ai (Ao 10 Gu.nd (Ag Bt (Ba (Fi T) (hr.mono (by decide)) rfl T.Be.m T.Be.k T.Be.b pass0 (Ac (Aa 0) (Ac (Aa 6) Af))) Ad)) (Ai (Ao 11 Gu.nd (Ba (Xf T) (hr.mono (by decide)) rfl T.Ho.m T.Ho.k T.Ho.b pass0 (Ac (Ba (Fi T) (hr.mono (by decide)) rfl T.Be.m T.Be.k T.Be.b pass0 (Ac (Aa 0) (Ac (Ag Bd (Aa 6) Ad) Af))) (Ac (De (Ba (Wj T) (hr.mono (by decide)) rfl T.Hi.m T.Hi.k T.Hi.b pass0 (Ac (Aa 0) Af))) Af)))) (Ai (Ao 12 Gu.nd (Ag Bt (Ba (Fi T) (hr.mono (by decide)) rfl T.Be.m T.Be.k T.Be.b pass0 (Ac (Aa 0) (Ac (Ag Bd (Aa 6) Ad) Af))) (Al Am (De (Fp (Ac Ad (Ac (Ag Ob Ad Ad) Af)))) (Ag Bt (Ag Dp (Aa 1) Ad) Ad)))) (An (Bu (Bp Lw (Aa 10) Ad (nomark _)) (An (Ew (Hr PySem.F.slot_list_append PySem.F.type_list_append Hv (Aa 5) (Ac (De (Ba (ZJN T) (hr.mono (by decide)) rfl T.Pz.m T.Pz.k T.Pz.b pass0 (Ac (Aa 0) (Ac (Aa 6) (Ac (Aa 4) (Ac (Aa 3) (Ac (Aa 9) Af))))))) Af)))) (An (Bu (Bp Lw (Aa 10) Ad (nomark _)) (An (Ew (Hr PySem.F.slot_list_append PySem.F.type_list_append Hv (Aa 5) (Ac (Fd (Ac Ft (Ac (Al Am (Aa 3) (Aa 4)) (Ac (Al Am (Aa 9) Ad) (Ac (Al Am (Aa 9) Ad) (Ac (Aa 11) (Ac (Aa 12) Af))))))) Af)))) (An (Ew (Hr PySem.F.slot_list_append PySem.F.type_list_append Hv (Aa 5) (Ac (Fd (Ac Ft (Ac (Al Am (Aa 3) (Aa 4)) (Ac (Al Am (Aa 9) Ad) (Ac (Al Am (Aa 9) Ad) (Ac (Aa 11) Af)))))) Af)))))))))))))))))) (An (Bj (Fd (Ac (Ba (ZGM T) (hr.mono (by decide)) rfl T.Ks.m T.Ks.k T.Ks.b pass0 (Ac (Aa 0) Af)) (Ac (J6 Jg rfl T.Gf Gi (Ac (Aa 5) Af)) Af)))))))))))
theorem ZKp (T:Txt K mg):FnO P w K mg base 1 "_law_keeps" ZAn W5:=by
 refine Cm T.Q8.F Uu λcdv A outer s H E hr=> ?_
 exact (Ai (Eo PassesOwn.never rfl (Ie rfl T.Hk (Ac (Bm Dr rfl T.Dt Do (Ac (Aa 1) Af)) Af)) (Az 2 Uu.nd) (Ai (Ao 3 Uu.nd (Al Am (Aa 1) (Aa 2))) (Ai (Ao 4 Uu.nd (Al Am (Al Am (Al Am (Aa 0) Ad) (Aa 2)) Ad)) (Ai (Bu (Gn (Nm (Bp (Dw hr.units) (Al Am (Al Am (Al Am (Aa 0) Ad) (Aa 2)) Ad) Ft (nomark _)) (R0 (Bp Lh (Al Am (Aa 3) Ad) (Aa 4) (nomark _))))) (An (Bj Hy)) Cj) (Ai (Bu (Gn (Nm (Bp (Dw hr.units) (Al Am (Al Am (Al Am (Aa 0) Ad) (Aa 2)) Ad) Ft (nomark _)) (Nm (Bp Lh (Al Am (Aa 3) Ad) Ad (nomark _)) (R0 (Bp (Mr hr.units) (Al Am (Aa 3) Ad) (Aa 4) (nomark _)))))) (An (Bj Hy)) Cj) (An (Bu (Gn (Nm (Bp (Dw hr.units) (Al Am (Al Am (Al Am (Aa 0) Ad) (Aa 2)) Ad) Ft (nomark _)) (R0 (Bp Lh (Al Am (Aa 3) Ad) (Aa 4) (nomark _))))) (An (Bj Hy)) Cj))))))) (An (Bj Hy)))
theorem ZIb (T:Txt K mg):FnO P w K mg base 3 "_law_number" ZB5 Rw:=by
 refine Cm T.Qw.F ZF6 λcdv A outer s H E hr=> ?_
 exact (Ai (Ao 1 ZF6.nd (Ba (Fi T) (hr.mono (by decide)) rfl T.Be.m T.Be.k T.Be.b pass0 (Ac (Aa 0) (Ac Ad Af)))) (An (Bj (Ag Bt (Ag Dp (Aa 1) Ad) (Al Am (De (Fp (Ac Ad (Ac (Ag Ob Ad Ad) Af)))) (Ag Bt (Aa 1) Ad))))))
theorem Yt (T:Txt K mg):FnO P w K mg base 1 "_law_whole" ZC0 Oa:=by
 refine Cm T.J9.F ZJW λcdv A outer s H E hr=> ?_
 exact (An (Bj (Ro (Bm Kc rfl T.Kh La (Ac (Aa 0) (Ac (Li rfl T.ZLx ZLg) Af))) (Ro (ZNl (Bm Kc rfl T.Kh La (Ac (Aa 0) (Ac (Li rfl T.ZNd ZI8) Af)))) (S9 (O3 o_ge (Aa 0) Ad (nomark _)))))))
theorem ZL2 (T:Txt K mg):FnO P w K mg base 2 "_law_page" Zf Vo:=by
 refine Cm T.Od.F ZEQ λcdv A outer s H E hr=> ?_
 exact (Ai (Bu (Gn (J1 (Jf (Hg (Bm Kc rfl T.Kh La (Ac (Aa 0) (Ac (Li rfl T.Gf Gi) Af))))) (Jb (Bp (Mr hr.units) (Bm Dr rfl T.Dt Do (Ac (Aa 0) Af)) (Aa 1) (nomark _))))) (An (Bj Hy)) Cj) (Ai (Eo PassesOwn.never rfl (Eu (Aa 0)) (Az 2 ZEQ.nd) (Ai (Bu (Gn (J1 (Jf (Hg (Bm Kc rfl T.Kh La (Ac (Aa 2) (Ac (Li rfl T.Gf Gi) Af))))) (Jb (Bp (Mr hr.units) (Bm Dr rfl T.Dt Do (Ac (Aa 2) Af)) Ad (nomark _))))) (An (Bj Hy)) Cj) (An (Bu (Jf (Hg (Bm (ZCs rfl) rfl T.ZCK Z7 (Ac (De (Hh rfl (Fg (dn:=(Av Ws).names) (N0:=ZAE) (N:= ["_law_number_here"]) (nt:=1) (caps:= [])) (Eu (Aa 2)) (λC s₀ H₀ ex=>(Az 0 (show (["_law_number_here"]:List Str).Nodup by decide +kernel))) (Ek (by decide)) (λC s₀ H₀ ex=>Fw) (λC s₀ H₀ ex=>(Ba (Yt T) (hr.mono (by decide)) rfl T.J9.m T.J9.k T.J9.b pass0 (Ac (Aa 0) Af))))) Af)))) (An (Bj Hy)) Cj)))) (An (Bj Hy))))
theorem ZJO (T:Txt K mg):FnO P w K mg base 4 "_law_state" Yl V8:=by
 refine Cm T.R1.F Ig λcdv A outer s H E hr=> ?_
 exact (Ai (Ao 2 Ig.nd (Al Am (Aa 1) Ad)) (Ai (Ao 3 Ig.nd (De (Ba (Wj T) (hr.mono (by decide)) rfl T.Hi.m T.Hi.k T.Hi.b pass0 (Ac (Aa 0) Af)))) (Ai (Ao 4 Ig.nd (Ag Bd Ad (Ag Dz Ad (Bm Dr rfl T.Dt Do (Ac (Aa 2) Af))))) (Ai (Ao 5 Ig.nd (Gq (Fp Af))) (Ai (Ao 6 Ig.nd (Gq (Fp Af))) (Ai (Eo PassesOwn.never rfl (Ie rfl T.Hk (Ac (Bm Dr rfl T.Dt Do (Ac (Aa 2) Af)) Af)) (Az 7 Ig.nd) (Ai (Ao 8 Ig.nd Ad) (Ai (Bu (Bp (Dw hr.units) (Al Am (Al Am (Aa 2) (Aa 7)) Ad) Ft (nomark _)) (An (Ao 8 Ig.nd (Ag Bt (Ba (Xf T) (hr.mono (by decide)) rfl T.Ho.m T.Ho.k T.Ho.b pass0 (Ac (Ba (Fi T) (hr.mono (by decide)) rfl T.Be.m T.Be.k T.Be.b pass0 (Ac (Aa 0) (Ac (Ag Bd (Aa 4) (Aa 7)) Af))) (Ac (Aa 3) Af))) (Ag Bd (Al Am (Al Am (Aa 2) (Aa 7)) Ad) Ad)))) Cj) (Ai (Ew (Hr PySem.F.slot_list_append PySem.F.type_list_append Hv (Aa 5) (Ac (Aa 8) Af))) (Ai (Ao 9 Ig.nd (Ba (Fi T) (hr.mono (by decide)) rfl T.Be.m T.Be.k T.Be.b pass0 (Ac (Aa 0) (Ac (Ag Bd (Ag Bd (Aa 4) (Bm Dr rfl T.Dt Do (Ac (Aa 2) Af))) (Aa 7)) Af)))) (Ai (Ao 10 Ig.nd (Gq (Fp Af))) (Ai (Eo PassesOwn.never rfl (Ie rfl T.Hk (Ac Ad Af)) (Az 11 Ig.nd) (Ai (Ew (Hr PySem.F.slot_list_append PySem.F.type_list_append Hv (Aa 10) (Ac (Ag Dz (Aa 3) (Ag Bt (Aa 9) Ad)) Af))) (An (Ao 9 Ig.nd (Ag Dp (Aa 9) Ad))))) (An (Ew (Hr PySem.F.slot_list_append PySem.F.type_list_append Hv (Aa 6) (Ac (J6 Jg rfl T.Gf Gi (Ac (Aa 10) Af)) Af))))))))))) (An (Bj (Fd (Ac (J6 Jg rfl T.Gf Gi (Ac (Aa 5) Af)) (Ac (J6 Jg rfl T.Gf Gi (Ac (Aa 6) Af)) Af)))))))))))
theorem ZDv (T:Txt K mg):FnO P w K mg base 1 "_law_sum" Zc Sd:=by
 refine Cm T.Kz.F ZMs λcdv A outer s H E hr=> ?_
 exact (An (Bj (Ag Bd (Bm (U5 rfl) rfl T.Tv Ry (Ac (Al Am (Aa 0) Ad) Af)) (Bm (U5 rfl) rfl T.Tv Ry (Ac (De (Hh rfl (Fg (dn:=(Av V3).names) (N0:=ZAx) (N:= ["_law_row"]) (nt:=1) (caps:= [])) (Eu (Al Am (Aa 0) Ad)) (λC s₀ H₀ ex=>(Az 0 (show (["_law_row"]:List Str).Nodup by decide +kernel))) (Ek (by decide)) (λC s₀ H₀ ex=>Fw) (λC s₀ H₀ ex=>(Bm (U5 rfl) rfl T.Tv Ry (Ac (Aa 0) Af))))) Af)))))
theorem ZJu (T:Txt K mg):FnO P w K mg base 2 "_law_told_state" ZCH Vv:=by
 refine Cm T.Ql.F ZC8 λcdv A outer s H E hr=> ?_
 exact (Ai (Bu (Gn (J1 (Jf (Hg (Bm Kc rfl T.Kh La (Ac (Aa 0) (Ac (Li rfl T.Gf Gi) Af))))) (Jb (Bp (Mr hr.units) (Bm Dr rfl T.Dt Do (Ac (Aa 0) Af)) Ad (nomark _))))) (An (Bj Hy)) Cj) (Ai (Bu (Gn (J1 (Jf (Hg (Bm Kc rfl T.Kh La (Ac (Al Am (Aa 0) Ad) (Ac (Li rfl T.Gf Gi) Af))))) (Jb (Jf (Hg (Bm Kc rfl T.Kh La (Ac (Al Am (Aa 0) Ad) (Ac (Li rfl T.Gf Gi) Af)))))))) (An (Bj Hy)) Cj) (Ai (Bu (Gn (J1 (Bp (Mr hr.units) (Bm Dr rfl T.Dt Do (Ac (Al Am (Aa 0) Ad) Af)) (Aa 1) (nomark _)) (Jb (Bp (Mr hr.units) (Bm Dr rfl T.Dt Do (Ac (Al Am (Aa 0) Ad) Af)) (Aa 1) (nomark _))))) (An (Bj Hy)) Cj) (Ai (Eo PassesOwn.never rfl (Eu (Al Am (Aa 0) Ad)) (Az 2 ZC8.nd) (An (Bu (Gn (J1 (Jf (Hg (Bm Kc rfl T.Kh La (Ac (Aa 2) (Ac (Li rfl T.Gf Gi) Af))))) (J1 (Bp (Mr hr.units) (Bm Dr rfl T.Dt Do (Ac (Aa 2) Af)) Ad (nomark _)) (Jb (Jf (Hg (Bm (ZCs rfl) rfl T.ZCK Z7 (Ac (De (Hh rfl (Fg (dn:=(Av U8).names) (N0:=Wg) (N:= ["_law_x"]) (nt:=1) (caps:= [])) (Eu (Aa 2)) (λC s₀ H₀ ex=>(Az 0 (show (["_law_x"]:List Str).Nodup by decide +kernel))) (Ek (by decide)) (λC s₀ H₀ ex=>Fw) (λC s₀ H₀ ex=>(Ba (Yt T) (hr.mono (by decide)) rfl T.J9.m T.J9.k T.J9.b pass0 (Ac (Aa 0) Af))))) Af)))))))) (An (Bj Hy)) Cj))) (An (Bj (Bm (ZCs rfl) rfl T.ZCK Z7 (Ac (De (Hh rfl (Fg (dn:=(Av U8).names) (N0:=Wg) (N:= ["_law_x"]) (nt:=1) (caps:= [])) (Eu (Al Am (Aa 0) Ad)) (λC s₀ H₀ ex=>(Az 0 (show (["_law_x"]:List Str).Nodup by decide +kernel))) (Ek (by decide)) (λC s₀ H₀ ex=>Fw) (λC s₀ H₀ ex=>(Ba (Yt T) (hr.mono (by decide)) rfl T.J9.m T.J9.k T.J9.b pass0 (Ac (Aa 0) Af))))) Af))))))))
theorem ZKd (T:Txt K mg):MtO P w K mg base 1 "Course" "__init__" ZB9 R7:=by
 refine Cm T.Ss.F ZCR λcdv A outer s H E hr=> ?_
 exact (Ai (Ms (Aa 2) (Gm rfl (Cr (Az 5 ZCR.nd) (Cr (Az 6 ZCR.nd) Gr)))) (Ai (Nb T.Ax.N T.Ax.cl T.Jy (Aa 0) (Aa 1)) (Ai (Nb T.Ax.N T.Ax.cl T.W4 (Aa 0) (Aa 5)) (Ai (Nb T.Ax.N T.Ax.cl T.V2 (Aa 0) (Ag Bt (Aa 3) (Al Am (Aa 1) (Cv (v:=(.int 0)) rfl T.Yr ⟨_,rfl⟩ (λ_ _=>rfl))))) (Ai (Nb T.Ax.N T.Ax.cl T.Ou (Aa 0) (Hh rfl (Fg (dn:=(Av T7).names) (N0:=X6) (N:= ["cubes","ahead"]) (nt:=2) (caps:= [])) (ZFp rfl T.ZBF (Ac (Aa 4) (Ac (Aa 6) Af))) (λC s₀ H₀ ex=>(Gm rfl (Cr (Az 0 (show (["cubes","ahead"]:List Str).Nodup by decide +kernel)) (Cr (Az 1 (show (["cubes","ahead"]:List Str).Nodup by decide +kernel)) Gr)))) (Ra (Jv (Ek (by decide)) (Jv (Ek (by decide)) Rh))) (λC s₀ H₀ ex=>Fw) (λC s₀ H₀ ex=>(Ag Bd (Aa 0) (Al Am (Aa 1) Ad))))) (Ai (Nb T.Ax.N T.Ax.cl T.U4 (Aa 0) (Hh rfl (Fg (dn:=(Av T7).names) (N0:=X6) (N:= ["ahead"]) (nt:=1) (caps:= [])) (Eu (Aa 6)) (λC s₀ H₀ ex=>(Az 0 (show (["ahead"]:List Str).Nodup by decide +kernel))) (Ek (by decide)) (λC s₀ H₀ ex=>Fw) (λC s₀ H₀ ex=>(Gq (Ag Bd (De (J6 (ZII rfl) rfl T.ZBB ZCu (Ac (De (ZPo (Aa 0) (ZM8 Ad) ZKh)) Af))) (De (Fp (Ac Ad Af)))))))) (Ai (Nb T.Ax.N T.Ax.cl T.O4 (Aa 0) (Gq (Ag ZDx (Fp (Ac Im Af)) (Bm Dr rfl T.Dt Do (Ac (Aa 5) Af))))) (An (Nb T.Ax.N T.Ax.cl T.Ww (Aa 0) (Gq (Fp Af)))))))))))
theorem ZEc (T:Txt K mg):MtO P w K mg base 1 "Course" "send" ZBT Rb:=by
 refine Cm T.Ng.F ZNQ λcdv A outer s H E hr=> ?_
 exact (An (Bu (Bp (Dw hr.units) (Aa 2) Ad (nomark _)) (An (Wm (Fq T.Ax.N T.Ax.cl T.Ou (Aa 0)) (Aa 1) (Aa 3) Tt)) (An (Wm (Al Am (Fq T.Ax.N T.Ax.cl T.U4 (Aa 0)) (Aa 1)) (Ag Gp (Aa 2) Ad) (Aa 3) Tt))))
theorem ZE0 (T:Txt K mg):FnO P w K mg base 1 "number_of" Yk Ri:=by
 refine Cm T.Lb.F ZB7 λcdv A outer s H E hr=> ?_
 exact (Ai (Eo PassesOwn.never rfl (Td rfl T.Q4 (Ac (Al Am (Aa 0) (Cv (v:=(.int 1)) rfl T.Jp ⟨_,rfl⟩ (λ_ _=>rfl))) Af)) (Gm rfl (Cr (Az 2 ZB7.nd) (Cr (Az 3 ZB7.nd) Gr))) (An (Bu (Bp (Dw hr.units) (Al Am (Aa 3) (Cv (v:=(.int 1)) rfl T.ZBU ⟨_,rfl⟩ (λ_ _=>rfl))) (Aa 1) (nomark _)) (An (Bj (Aa 2))) Cj))) (An ZKu))
theorem ZG6 (T:Txt K mg):FnO P w K mg base 2 "down_of" ZCF Tn:=by
 refine Cm T.Le.F ZGv λcdv A outer s H E hr=> ?_
 exact (Ai (Ao 2 ZGv.nd (Al Am (Al Am (Al Am (Aa 0) (Cv (v:=(.int 1)) rfl T.Jp ⟨_,rfl⟩ (λ_ _=>rfl))) (Aa 1)) (Cv (v:=(.int 2)) rfl T.ZBq ⟨_,rfl⟩ (λ_ _=>rfl)))) (Ai (Bu (Bp (Dw hr.units) (Aa 2) (Cv (v:=(.str "sea")) rfl T.ZCw ⟨_,rfl⟩ (λ_ _=>rfl)) (nomark _)) (An (Bj Im)) Cj) (An (Bj (Ba (ZE0 T) (hr.mono (by decide)) rfl T.Lb.m T.Lb.k T.Lb.b pass0 (Ac (Aa 0) (Ac (Aa 2) Af)))))))
theorem ZEJ (T:Txt K mg):MtO P w K mg base 3 "Course" "send_down" ZBK Sq:=by
 refine Cm T.O5.F ZGa λcdv A outer s H E hr=> ?_
 exact (Ai (Ao 3 ZGa.nd (Ba (ZG6 T) (hr.mono (by decide)) rfl T.Le.m T.Le.k T.Le.b pass0 (Ac (Fq T.Ax.N T.Ax.cl T.Jy (Aa 0)) (Ac (Aa 1) Af)))) (An (Bu (Bp R8 (Aa 3) Im (nomark _)) (An (Ew (Ov T.Ax.N T.Ax.cl T.Ng.me (ZEc T) (hr.mono (by decide)) T.Ng.b pass0 (Aa 0) (Ac (Aa 3) (Ac (Al Am (Al Am (Al Am (Fq T.Ax.N T.Ax.cl T.Jy (Aa 0)) (Cv (v:=(.int 1)) rfl T.Jp ⟨_,rfl⟩ (λ_ _=>rfl))) (Aa 1)) (Cv (v:=(.int 3)) rfl T.Wr ⟨_,rfl⟩ (λ_ _=>rfl))) (Ac (Aa 2) Af)))))) Cj)))
theorem ZIV (T:Txt K mg):FnO P w K mg base 1 "opened" ZB3 Wx:=by
 refine Cm T.Oz.F Ky λcdv A outer s H E hr=> ?_
 exact (Ai (Ao 2 Ky.nd Ad) (Ai (Ao 3 Ky.nd Ad) (Ai (Eo PassesOwn.never rfl (Eu (Aa 0)) (Gm rfl (Cr (Az 4 Ky.nd) (Cr (Az 5 Ky.nd) (Cr (Az 6 Ky.nd) Gr)))) (Ai (Ao 7 Ky.nd (Bm (ZNf rfl) rfl T.ZE8 ZFc (Ac Ad (Ac (Bm (Uc rfl) rfl T.Tw Tf (Ac (Aa 5) (Ac (Ag Gp (Aa 1) (Aa 4)) Af))) Af)))) (An (Bu (Bp (Dw hr.units) (Aa 6) Ft (nomark _)) (An (ZGp 2 Ky.nd (Aa 7) Tt)) (An (ZGp 3 Ky.nd (Aa 7) Tt)))))) (An (Bj (Fd (Ac (Aa 2) (Ac (Aa 3) (Ac (Ag Gp (Ag Gp (Aa 1) (Aa 2)) (Aa 3)) Af)))))))))
theorem ZKg (T:Txt K mg):FnO P w K mg base 1 "stairs_at" ZAy Us:=by
 refine Cm T.Qm.F U9 λcdv A outer s H E hr=> ?_
 exact (Ai (Ao 2 U9.nd (Fd Af)) (Ai (Eo PassesOwn.never rfl (Eu (Aa 0)) (Gm rfl (Cr (Az 3 U9.nd) (Cr (Az 4 U9.nd) Gr))) (An (Bu (Bp o_le (Aa 3) (Aa 1) (nomark _)) (An (Ao 2 U9.nd (Aa 4))) Cj))) (An (Bj (Aa 2)))))
theorem ZKy (T:Txt K mg):MtO P w K mg base 4 "Course" "go_basin" ZAU Vz:=by
 refine Cm T.Tj.F M9 λcdv A outer s H E hr=> ?_
 exact (Ai (Ao 2 M9.nd (Al Am (Al Am (Fq T.Ax.N T.Ax.cl T.Jy (Aa 0)) (Cv (v:=(.int 1)) rfl T.Jp ⟨_,rfl⟩ (λ_ _=>rfl))) (Aa 1))) (Ai (Ao 3 M9.nd (Al Am (Fq T.Ax.N T.Ax.cl T.Ou (Aa 0)) (Aa 1))) (Ai (Ms (Ba (ZIV T) (hr.mono (by decide)) rfl T.Oz.m T.Oz.k T.Oz.b pass0 (Ac (Ba (ZKg T) (hr.mono (by decide)) rfl T.Qm.m T.Qm.k T.Qm.b pass0 (Ac (Al Am (Aa 2) (Cv (v:=(.int 5)) rfl T.ZAu ⟨_,rfl⟩ (λ_ _=>rfl))) (Ac (Fq T.Ax.N T.Ax.cl T.V2 (Aa 0)) Af))) (Ac (Ag Bd (Al Am (Fq T.Ax.N T.Ax.cl T.W4 (Aa 0)) (Aa 1)) (Aa 3)) Af))) (Gm rfl (Cr (Az 4 M9.nd) (Cr (Az 5 M9.nd) (Cr (Az 6 M9.nd) Gr))))) (Ai (Ao 7 M9.nd (Bm (Uc rfl) rfl T.Tw Tf (Ac (Aa 6) (Ac (Al Am (Aa 2) (Cv (v:=(.int 4)) rfl T.ZBd ⟨_,rfl⟩ (λ_ _=>rfl))) Af)))) (Ai (Ao 8 M9.nd (Ag Gp (Aa 6) (Aa 7))) (Ai (Ms (Fd (Ac (Aa 3) (Ac Ad (Ac (Aa 8) (Ac (Aa 4) (Ac (Aa 5) (Ac (Aa 7) Af))))))) (Xy (Fq T.Ax.N T.Ax.cl T.O4 (Aa 0)) (Aa 1))) (Ai (Ew (Ov T.Ax.N T.Ax.cl T.O5.me (ZEJ T) (hr.mono (by decide)) T.O5.b pass0 (Aa 0) (Ac (Aa 1) (Ac (Ag Bd (Aa 4) (Aa 8)) Af)))) (An (Bu (Bp R8 (Al Am (Aa 2) (Cv (v:=(.int 6)) rfl T.S7 ⟨_,rfl⟩ (λ_ _=>rfl))) Im (nomark _)) (An (Ew (Ov T.Ax.N T.Ax.cl T.Ng.me (ZEc T) (hr.mono (by decide)) T.Ng.b pass0 (Aa 0) (Ac (Ba (ZE0 T) (hr.mono (by decide)) rfl T.Lb.m T.Lb.k T.Lb.b pass0 (Ac (Fq T.Ax.N T.Ax.cl T.Jy (Aa 0)) (Ac (Al Am (Al Am (Aa 2) (Cv (v:=(.int 6)) rfl T.S7 ⟨_,rfl⟩ (λ_ _=>rfl))) (Cv (v:=(.int 0)) rfl T.ZA6 ⟨_,rfl⟩ (λ_ _=>rfl))) Af))) (Ac (Al Am (Al Am (Aa 2) (Cv (v:=(.int 6)) rfl T.S7 ⟨_,rfl⟩ (λ_ _=>rfl))) (Cv (v:=(.int 1)) rfl T.ZAB ⟨_,rfl⟩ (λ_ _=>rfl))) (Ac (Aa 5) Af)))))) Cj)))))))))
theorem ZHx (T:Txt K mg):FnO P w K mg base 1 "passed" ZBA Qp:=by
 refine Cm T.Lk.F Ui λcdv A outer s H E hr=> ?_
 exact (Ai (U0 2 rfl Ui.nd (Fg (dn:=(Av Wn).names) (N0:=Yo) (N:= ["row","take"]) (nt:=2) (caps:= [])) (ZFp rfl T.ZBF (Ac (Aa 0) (Ac (Aa 1) Af))) (λC s₀ H₀ ex=>(Gm rfl (Cr (Az 0 (show (["row","take"]:List Str).Nodup by decide +kernel)) (Cr (Az 1 (show (["row","take"]:List Str).Nodup by decide +kernel)) Gr)))) (Ra (Jv (Ek (by decide)) (Jv (Ek (by decide)) Rh))) (λC s₀ H₀ ex=>Fw) (λC s₀ H₀ ex=>(Ag Gp (Al Am (Aa 0) (Cv (v:=(.int 1)) rfl T.ZBe ⟨_,rfl⟩ (λ_ _=>rfl))) (Aa 1)))) (Ai (Eo PassesOwn.never rfl (Td rfl T.Q4 (Ac (Aa 0) Af)) (Gm rfl (Cr (Az 4 Ui.nd) (Cr (Az 3 Ui.nd) Gr))) (An (Bu (Bp R8 (Al Am (Aa 3) (Cv (v:=(.int 0)) rfl T.Q7 ⟨_,rfl⟩ (λ_ _=>rfl))) Im (nomark _)) (An (Wm (Aa 2) (Al Am (Aa 3) (Cv (v:=(.int 0)) rfl T.Q7 ⟨_,rfl⟩ (λ_ _=>rfl))) (Al Am (Aa 2) (Aa 4)) Tt)) Cj))) (An (Bj (Aa 2)))))
theorem ZHM (T:Txt K mg):FnO P w K mg base 3 "down_in_reach" ZAZ S6:=by
 refine Cm T.Kl.F ZAf λcdv A outer s H E hr=> ?_
 exact (Ai (Ao 2 ZAf.nd (Al Am (Aa 0) (Cv (v:=(.int 1)) rfl T.Jp ⟨_,rfl⟩ (λ_ _=>rfl)))) (Ai (Ao 3 ZAf.nd (Ba (ZG6 T) (hr.mono (by decide)) rfl T.Le.m T.Le.k T.Le.b pass0 (Ac (Aa 0) (Ac (Aa 1) Af)))) (Ai (Bu (Gn (J1 (Bp o_is (Aa 3) Im (nomark _)) (Jb (Bp Lh (Al Am (Al Am (Aa 2) (Aa 1)) (Cv (v:=(.int 3)) rfl T.Wr ⟨_,rfl⟩ (λ_ _=>rfl))) Ad (nomark _))))) (An (Bj Im)) Cj) (Ai (Bu (Gn (J1 (Bp (Dw hr.units) (Al Am (Al Am (Aa 2) (Aa 1)) (Cv (v:=(.int 0)) rfl T.Qa ⟨_,rfl⟩ (λ_ _=>rfl))) Ft (nomark _)) (Jb (Bp (Dw hr.units) (Al Am (Al Am (Aa 2) (Aa 3)) (Cv (v:=(.int 0)) rfl T.Qa ⟨_,rfl⟩ (λ_ _=>rfl))) Ft (nomark _))))) (An (Bj Im)) Cj) (An (Bj (Aa 3)))))))
theorem ZJg (T:Txt K mg):FnO P w K mg base 4 "reach_rows" ZCx V5:=by
 refine Cm T.Q0.F Pn λcdv A outer s H E hr=> ?_
 exact (Ai (Ao 3 Pn.nd (Gq (Fp Af))) (Ai (Eo PassesOwn.never rfl (Eu (Aa 1)) (Az 4 Pn.nd) (Ai (Ao 5 Pn.nd (Al Am (Al Am (Aa 0) (Cv (v:=(.int 1)) rfl T.Jp ⟨_,rfl⟩ (λ_ _=>rfl))) (Aa 4))) (Ai (Ao 6 Pn.nd (Ba (ZHM T) (hr.mono (by decide)) rfl T.Kl.m T.Kl.k T.Kl.b pass0 (Ac (Aa 0) (Ac (Aa 4) Af)))) (Ai (Ao 7 Pn.nd (ZH2 (Bp o_is (Aa 6) Im (nomark _)) Im (Hr PySem.F.slot_list_index PySem.F.type_list_index ZN3 (Aa 1) (Ac (Aa 6) Af)))) (An (Bu (Bp (Dw hr.units) (Al Am (Aa 5) (Cv (v:=(.int 0)) rfl T.Qa ⟨_,rfl⟩ (λ_ _=>rfl))) Ft (nomark _)) (An (Ew (Hr PySem.F.slot_list_append PySem.F.type_list_append Hv (Aa 3) (Ac (Fd (Ac (Aa 7) (Ac (Al Am (Aa 2) (Aa 4)) (Ac (Al Am (Aa 5) (Cv (v:=(.int 4)) rfl T.ZBx ⟨_,rfl⟩ (λ_ _=>rfl))) (Ac (Al Am (Aa 5) (Cv (v:=(.int 5)) rfl T.ZBh ⟨_,rfl⟩ (λ_ _=>rfl))) Af))))) Af)))) (An (Ew (Hr PySem.F.slot_list_append PySem.F.type_list_append Hv (Aa 3) (Ac (Fd (Ac (Aa 7) (Ac (Al Am (Aa 2) (Aa 4)) (Ac Ad (Ac Ad Af))))) Af)))))))))) (An (Bj (Aa 3)))))
theorem ZIy (T:Txt K mg):FnO P w K mg base 1 "served" ZAs Vu:=by
 refine Cm T.Qv.F ZEe λcdv A outer s H E hr=> ?_
 exact (Ai (Ao 1 ZEe.nd (De (Bm ZIl rfl T.ZKZ ZPZ (Ac (De (Hh rfl (Fg (dn:=(Av Rx).names) (N0:=Wi) (N:= ["number","row"]) (nt:=2) (caps:= [])) (Td rfl T.Q4 (Ac (Aa 0) Af)) (λC s₀ H₀ ex=>(Gm rfl (Cr (Az 0 (show (["number","row"]:List Str).Nodup by decide +kernel)) (Cr (Az 1 (show (["number","row"]:List Str).Nodup by decide +kernel)) Gr)))) (Ra (Jv (Ek (by decide)) (Jv (Ek (by decide)) Rh))) (λC s₀ H₀ ex=>Fw) (λC s₀ H₀ ex=>(Fd (Ac (Al Am (Aa 1) (Cv (v:=(.int 3)) rfl T.ZAo ⟨_,rfl⟩ (λ_ _=>rfl))) (Ac (Aa 0) Af)))))) Af)))) (An (Bj (Hh rfl (Fg (dn:=(Av Rx).names) (N0:=Wi) (N:= ["rank","number"]) (nt:=2) (caps:= [])) (Eu (Aa 1)) (λC s₀ H₀ ex=>(Gm rfl (Cr (Az 0 (show (["rank","number"]:List Str).Nodup by decide +kernel)) (Cr (Az 1 (show (["rank","number"]:List Str).Nodup by decide +kernel)) Gr)))) (Ra (Jv (Ek (by decide)) (Jv (Ek (by decide)) Rh))) (λC s₀ H₀ ex=>Fw) (λC s₀ H₀ ex=>(Aa 1))))))
theorem ZKf (T:Txt K mg):FnO P w K mg base 1 "way_down" ZBD Ve:=by
 refine Cm T.Pj.F W0 λcdv A outer s H E hr=> ?_
 exact (Ai (Ao 2 W0.nd (Gq (Fp (Ac (Aa 1) Af)))) (Ai (Ao 3 W0.nd (Al Am (Al Am (Aa 0) (Aa 1)) (Cv (v:=(.int 0)) rfl T.Q7 ⟨_,rfl⟩ (λ_ _=>rfl)))) (Ai (ZNb fuel PassesOwn.never (Bp R8 (Aa 3) Im (nomark _)) (Ai (Ew (Hr PySem.F.slot_list_append PySem.F.type_list_append Hv (Aa 2) (Ac (Aa 3) Af))) (An (Ao 3 W0.nd (Al Am (Al Am (Aa 0) (Aa 3)) (Cv (v:=(.int 0)) rfl T.Q7 ⟨_,rfl⟩ (λ_ _=>rfl))))))) (An (Bj (Aa 2))))))
theorem ZJH (T:Txt K mg):FnO P w K mg base 2 "shares" ZBN Y5:=by
 refine Cm T.Oi.F My λcdv A outer s H E hr=> ?_
 exact (Ai (Ao 1 My.nd (Gq (Ag ZDx (Fp (Ac Ad Af)) (Bm Dr rfl T.Dt Do (Ac (Aa 0) Af))))) (Ai (Ao 2 My.nd (Gq (Ba (ZHx T) (hr.mono (by decide)) rfl T.Lk.m T.Lk.k T.Lk.b pass0 (Ac (Aa 0) (Ac (Aa 1) Af))))) (Ai (Eo PassesOwn.never rfl (Eu (De (Ba (ZIy T) (hr.mono (by decide)) rfl T.Qv.m T.Qv.k T.Qv.b pass0 (Ac (Aa 0) Af)))) (Az 3 My.nd) (Ai (Ao 4 My.nd (De (Ba (ZKf T) (hr.mono (by decide)) rfl T.Pj.m T.Pj.k T.Pj.b pass0 (Ac (Aa 0) (Ac (Aa 3) Af))))) (Ai (Ao 5 My.nd (Bm (Uc rfl) rfl T.Tw Tf (Ac (Al Am (Al Am (Aa 0) (Aa 3)) (Cv (v:=(.int 2)) rfl T.ZBP ⟨_,rfl⟩ (λ_ _=>rfl))) (Ac (Bm (ZNE rfl) rfl T.Tw Tf (Ac (De (Hh rfl (Fg (dn:=(Av Uo).names) (N0:=Zb) (N:= ["below","passing"]) (nt:=1) (caps:= [2])) (Eu (Aa 4)) (λC s₀ H₀ ex=>(Az 0 (show (["below","passing"]:List Str).Nodup by decide +kernel))) (Ek (by decide)) (λC s₀ H₀ ex=>Fw) (λC s₀ H₀ ex=>(Al Am (Aa 1) (Aa 0))))) Af)) Af)))) (Ai (Ms (Aa 5) (Xy (Aa 1) (Aa 3))) (An (Eo PassesOwn.never rfl (Eu (Aa 4)) (Az 6 My.nd) (An (Wm (Aa 2) (Aa 6) (Aa 5) ZPE)))))))) (An (Bj (Aa 1))))))
theorem ZLJ (T:Txt K mg):MtO P w K mg base 5 "Course" "go_reach" ZAq W2:=by
 refine Cm T.Tz.F Om λcdv A outer s H E hr=> ?_
 exact (Ai (Ao 2 Om.nd (De (Ba (ZJg T) (hr.mono (by decide)) rfl T.Q0.m T.Q0.k T.Q0.b pass0 (Ac (Fq T.Ax.N T.Ax.cl T.Jy (Aa 0)) (Ac (Aa 1) (Ac (Fq T.Ax.N T.Ax.cl T.Ou (Aa 0)) Af)))))) (Ai (Ao 3 Om.nd (De (Ba (ZJH T) (hr.mono (by decide)) rfl T.Oi.m T.Oi.k T.Oi.b pass0 (Ac (Aa 2) Af)))) (Ai (Eo PassesOwn.never rfl (ZH4 rfl T.ZBF (Ac (Aa 1) (Ac (Aa 3) (Ac (De (Ba (ZHx T) (hr.mono (by decide)) rfl T.Lk.m T.Lk.k T.Lk.b pass0 (Ac (Aa 2) (Ac (Aa 3) Af)))) Af)))) (Gm rfl (Cr (Az 4 Om.nd) (Cr (Az 5 Om.nd) (Cr (Az 6 Om.nd) Gr)))) (Ai (Ms (Fd (Ac (Ag Bd (Aa 5) (Aa 6)) (Ac (Aa 5) (Ac Ad (Ac (Aa 6) (Ac Ad (Ac Ad Af))))))) (Xy (Fq T.Ax.N T.Ax.cl T.O4 (Aa 0)) (Aa 4))) (An (Bu (Bp (Dw hr.units) (Aa 4) (Al Am (Aa 1) (ZAR Zu Ad)) (nomark _)) (An (Ew (Ov T.Ax.N T.Ax.cl T.O5.me (ZEJ T) (hr.mono (by decide)) T.O5.b pass0 (Aa 0) (Ac (Aa 4) (Ac (Aa 6) Af))))) Cj)))) (An (Ew (Hr PySem.F.slot_list_append PySem.F.type_list_append Hv (Fq T.Ax.N T.Ax.cl T.Ww (Aa 0)) (Ac (Gq (Fd (Ac (Aa 1) (Ac (Aa 2) Af)))) Af)))))))
theorem ZMi (T:Txt K mg):FnO P w K mg base 4 "lasts_of_reaches" Zn X7:=by
 refine Cm T.Qf.F Up λcdv A outer s H E hr=> ?_
 exact (Ai (Ao 1 Up.nd (Gq (ZMY rfl rfl T.ZBB rfl T.Hk (Ac (Bm Dr rfl T.Dt Do (Ac (Al Am (Aa 0) (Cv (v:=(.int 1)) rfl T.Jp ⟨_,rfl⟩ (λ_ _=>rfl))) Af)) Af)))) (Ai (Eo PassesOwn.never rfl (ZMW rfl T.Hk (Ac (Ag Gp (Bm Dr rfl T.Dt Do (Ac (Al Am (Aa 0) (Cv (v:=(.int 1)) rfl T.Jp ⟨_,rfl⟩ (λ_ _=>rfl))) Af)) Ad) (Ac (ZAR Zu Ad) (Ac (ZAR Zu Ad) Af)))) (Az 2 Up.nd) (Ai (Ao 3 Up.nd (Ba (ZHM T) (hr.mono (by decide)) rfl T.Kl.m T.Kl.k T.Kl.b pass0 (Ac (Aa 0) (Ac (Aa 2) Af)))) (An (Bu (Bp R8 (Aa 3) Im (nomark _)) (An (Ms (Al Am (Aa 1) (Aa 3)) (Xy (Aa 1) (Aa 2)))) Cj)))) (An (Bj (Aa 1)))))
theorem ZOe (T:Txt K mg):MtO P w K mg base 6 "Course" "go" Zw Uz:=by
 refine Cm T.Rn.F Xl λcdv A outer s H E hr=> ?_
 exact (Ai (Ao 1 Xl.nd (De (Ba (ZMi T) (hr.mono (by decide)) rfl T.Qf.m T.Qf.k T.Qf.b pass0 (Ac (Fq T.Ax.N T.Ax.cl T.Jy (Aa 0)) Af)))) (An (Eo PassesOwn.never rfl (Td rfl T.Q4 (Ac (Aa 1) Af)) (Gm rfl (Cr (Az 2 Xl.nd) (Cr (Az 3 Xl.nd) Gr))) (An (Bu (Bp (Dw hr.units) (Al Am (Al Am (Al Am (Fq T.Ax.N T.Ax.cl T.Jy (Aa 0)) (Cv (v:=(.int 1)) rfl T.Jp ⟨_,rfl⟩ (λ_ _=>rfl))) (Aa 2)) (Cv (v:=(.int 0)) rfl T.Qa ⟨_,rfl⟩ (λ_ _=>rfl))) Ft (nomark _)) (An (Ew (Ov T.Ax.N T.Ax.cl T.Tj.me (ZKy T) (hr.mono (by decide)) T.Tj.b pass0 (Aa 0) (Ac (Aa 2) Af)))) (An (Bu (Bp (Dw hr.units) (Aa 3) (Aa 2) (nomark _)) (An (Ew (Ov T.Ax.N T.Ax.cl T.Tz.me (ZLJ T) (hr.mono (by decide)) T.Tz.b pass0 (Aa 0) (Ac (De (Hh rfl (Fg (dn:=(Av Wf).names) (N0:=Yx) (N:= ["member","end","number"]) (nt:=2) (caps:= [2])) (Td rfl T.Q4 (Ac (Aa 1) Af)) (λC s₀ H₀ ex=>(Gm rfl (Cr (Az 0 (show (["member","end","number"]:List Str).Nodup by decide +kernel)) (Cr (Az 1 (show (["member","end","number"]:List Str).Nodup by decide +kernel)) Gr)))) (Ra (Jv (Ek (by decide)) (Jv (Ek (by decide)) Rh))) (λC s₀ H₀ ex=>(ZKT (Bp (Dw hr.units) (Aa 1) (Aa 2) (nomark _)))) (λC s₀ H₀ ex=>(Aa 0)))) Af)))) Cj)))))))
theorem ZJl (T:Txt K mg):MtO P w K mg base 1 "Course" "state_behind" Z3 Wt:=by
 refine Cm T.Sw.F ZPt λcdv A outer s H E hr=> ?_
 exact (An (Bj (Fd (Ac (J6 Jg rfl T.Gf Gi (Ac (De (Hh rfl (Fg (dn:=(Av Rj).names) (N0:=Vw) (N:= ["row"]) (nt:=1) (caps:= [])) (Eu (Fq T.Ax.N T.Ax.cl T.O4 (Aa 0))) (λC s₀ H₀ ex=>(Az 0 (show (["row"]:List Str).Nodup by decide +kernel))) (Ek (by decide)) (λC s₀ H₀ ex=>Fw) (λC s₀ H₀ ex=>(Al Am (Aa 0) (Cv (v:=(.int 5)) rfl T.ZCj ⟨_,rfl⟩ (λ_ _=>rfl)))))) Af)) (Ac (J6 Jg rfl T.Gf Gi (Ac (De (Hh rfl (Fg (dn:=(Av Rj).names) (N0:=Vw) (N:= ["ahead"]) (nt:=1) (caps:= [])) (Eu (Fq T.Ax.N T.Ax.cl T.U4 (Aa 0))) (λC s₀ H₀ ex=>(Az 0 (show (["ahead"]:List Str).Nodup by decide +kernel))) (Ek (by decide)) (λC s₀ H₀ ex=>Fw) (λC s₀ H₀ ex=>(J6 Jg rfl T.Gf Gi (Ac (Aa 0) Af))))) Af)) Af)))))
theorem ZM3 (T:Txt K mg):FnO P w K mg base 7 "turn" ZBm Vx:=by
 refine Cm T.Qd.F ZEx λcdv A outer s H E hr=> ?_
 exact (Ai (Ao 4 ZEx.nd (ZJw T.Ax.N T.Ax.mK (ZKd T) (hr.mono (by decide)) rfl T.Ax.g T.Ss.b pass0 (Ac (Aa 0) (Ac (Aa 1) (Ac (Aa 2) (Ac (Aa 3) Af)))))) (Ai (Ew (ZG0 T.Ax.N T.Ax.cl T.Rn.me (ZOe T) (hr.mono (by decide)) T.Rn.b pass0 (Aa 4))) (An (Bj (Fd (Ac (J6 Jg rfl T.Gf Gi (Ac (Fq T.Ax.N T.Ax.cl T.O4 (Aa 4)) Af)) (Ac (ZG0 T.Ax.N T.Ax.cl T.Sw.me (ZJl T) (hr.mono (by decide)) T.Sw.b pass0 (Aa 4)) Af)))))))
theorem ZKn (T:Txt K mg):FnO P w K mg base 8 "run" ZCv Xg:=by
 refine Cm T.Q3.F Pg λcdv A outer s H E hr=> ?_
 exact (Ai (Ao 4 Pg.nd (Gq (Fp Af))) (Ai (Eo PassesOwn.never rfl (ZJG rfl T.Q4 (Ac (Aa 3) Af) (Aa 2)) (Gm rfl (Cr (Az 5 Pg.nd) (Cr (Az 6 Pg.nd) Gr))) (Ai (Ms (Ba (ZM3 T) (hr.mono (by decide)) rfl T.Qd.m T.Qd.k T.Qd.b pass0 (Ac (Aa 0) (Ac (Aa 1) (Ac (Aa 5) (Ac (Aa 6) Af))))) (Gm rfl (Cr (Az 7 Pg.nd) (Cr (Az 1 Pg.nd) Gr)))) (An (Ew (Hr PySem.F.slot_list_append PySem.F.type_list_append Hv (Aa 4) (Ac (Aa 7) Af)))))) (An (Bj (Fd (Ac (Aa 4) (Ac (Aa 1) Af)))))))
theorem ZN9 (T:Txt K mg):FnO P w K mg base 9 "law" ZBC Mx:=by
 refine Cm T.Sg.F Jl λcdv A outer s H E hr=> ?_
 exact (Ai (Ao 1 Jl.nd (Ba (ZO3 T) (hr.mono (by decide)) rfl T.Qj.m T.Qj.k T.Qj.b pass0 (Ac (Aa 0) Af))) (Ai (Ao 2 Jl.nd (Ba (ZJO T) (hr.mono (by decide)) rfl T.R1.m T.R1.k T.R1.b pass0 (Ac (Aa 0) (Ac (Aa 1) Af)))) (Ai (Ao 3 Jl.nd (De (Ba (ZPU T) (hr.mono (by decide)) rfl T.Qn.m T.Qn.k T.Qn.b pass0 (Ac (Aa 0) (Ac (Aa 1) (Ac (Ag Bt (Ba (Fi T) (hr.mono (by decide)) rfl T.Be.m T.Be.k T.Be.b pass0 (Ac (Aa 0) (Ac Ad Af))) Ad) Af)))))) (Ai (Ms (De (Ba (ZKn T) (hr.mono (by decide)) rfl T.Q3.m T.Q3.k T.Q3.b pass0 (Ac (Aa 1) (Ac (Aa 2) (Ac (Ba (ZIb T) (hr.mono (by decide)) rfl T.Qw.m T.Qw.k T.Qw.b pass0 (Ac (Aa 0) Af)) (Ac (Aa 3) Af)))))) (Gm rfl (Cr (Az 4 Jl.nd) (Cr (Az 5 Jl.nd) Gr)))) (Ai (Bu (Gn (J1 (Jf (Hg (Bm Kc rfl T.Kh La (Ac (Aa 4) (Ac (Li rfl T.ZBB ZCu) Af))))) (Jb (Bp (Mr hr.units) (Bm Dr rfl T.Dt Do (Ac (Aa 4) Af)) (Bm Dr rfl T.Dt Do (Ac (Aa 3) Af)) (nomark _))))) (An (Bj Hy)) Cj) (Ai (Ao 6 Jl.nd (Ag Bd (Ba (ZDv T) (hr.mono (by decide)) rfl T.Kz.m T.Kz.k T.Kz.b pass0 (Ac (Aa 2) Af)) (Bm (U5 rfl) rfl T.Tv Ry (Ac (De (Hh rfl (Fg (dn:=(Av Io).names) (N0:=ZCz) (N:= ["_law_flood"]) (nt:=1) (caps:= [])) (Eu (Aa 3)) (λC s₀ H₀ ex=>(Az 0 (show (["_law_flood"]:List Str).Nodup by decide +kernel))) (Ek (by decide)) (λC s₀ H₀ ex=>Fw) (λC s₀ H₀ ex=>(Bm (U5 rfl) rfl T.Tv Ry (Ac (Aa 0) Af))))) Af)))) (Ai (Eo PassesOwn.never rfl (Eu (Aa 4)) (Az 7 Jl.nd) (Ai (Bu (Gn (J1 (Jf (Hg (Ba (ZL2 T) (hr.mono (by decide)) rfl T.Od.m T.Od.k T.Od.b pass0 (Ac (Aa 7) (Ac (Bm Dr rfl T.Dt Do (Ac (Al Am (Aa 1) Ad) Af)) Af))))) (Jb (Jf (Hg (Ba (ZKp T) (hr.mono (by decide)) rfl T.Q8.m T.Q8.k T.Q8.b pass0 (Ac (Aa 1) (Ac (Aa 7) Af)))))))) (An (Bj Hy)) Cj) (An (Eo PassesOwn.never rfl (Ie rfl T.Hk (Ac (Bm Dr rfl T.Dt Do (Ac (Aa 7) Af)) Af)) (Az 8 Jl.nd) (Ai (Ao 6 Jl.nd (Ag Gp (Aa 6) (Al Am (Al Am (Aa 7) (Aa 8)) Ad))) (An (Bu (Bp (Dw hr.units) (Al Am (Al Am (Al Am (Aa 1) Ad) (Aa 8)) Ad) Ft (nomark _)) (An (Ao 6 Jl.nd (Ag Gp (Ag Gp (Aa 6) (Al Am (Al Am (Aa 7) (Aa 8)) Ad)) (Al Am (Al Am (Aa 7) (Aa 8)) Ad)))) Cj))))))) (An (Bj (Ro (Ba (ZJu T) (hr.mono (by decide)) rfl T.Ql.m T.Ql.k T.Ql.b pass0 (Ac (Aa 5) (Ac (Bm Dr rfl T.Dt Do (Ac (Al Am (Aa 1) Ad) Af)) Af))) (S9 (O3 (Dw hr.units) (Aa 6) (Ba (ZDv T) (hr.mono (by decide)) rfl T.Kz.m T.Kz.k T.Kz.b pass0 (Ac (Aa 5) Af)) (nomark _)))))))))))))
end
noncomputable def asks:List Ask:= [.cl "Course",.fn "_law_off" ZCA,.fn "_law_tape" Zt,.fn "_law_cell_at" ZBw,.fn "_law_amount" ZA1,.fn "_law_unit" ZBt,.fn "_law_floods" Sv,.fn "_law_pumped" ZAa,.fn "_law_steps" ZCT,.fn "_law_year" Zg,.fn "_law_rule" Sh,.fn "_law_basin" Wk,.fn "_law_name" ZCZ,.fn "_law_house" V6,.fn "_law_keeps" ZCS,.fn "_law_number" ZAW,.fn "_law_whole" ZBk,.fn "_law_page" Ws,.fn "_law_state" ZAM,.fn "_law_sum" V3,.fn "_law_told_state" U8,.mt "Course" "__init__" "Course.__init__" T7,.mt "Course" "send" "Course.send" ZBM,.fn "number_of" ZAj,.fn "down_of" ZBs,.mt "Course" "send_down" "Course.send_down" ZAC,.fn "opened" ZBp,.fn "stairs_at" ZCr,.mt "Course" "go_basin" "Course.go_basin" ZCb,.fn "passed" Wn,.fn "down_in_reach" ZBX,.fn "reach_rows" ZBo,.fn "served" Rx,.fn "way_down" Zi,.fn "shares" Uo,.mt "Course" "go_reach" "Course.go_reach" ZCM,.fn "lasts_of_reaches" ZAS,.mt "Course" "go" "Course.go" Wf,.mt "Course" "state_behind" "Course.state_behind" Rj,.fn "turn" ZA5,.fn "run" ZB0,.fn "law" Io,.no "Course" "came",.no "Course" "coming",.no "Course" "house",.no "Course" "levels",.no "Course" "page",.no "Course" "reaches",.no "Course" "year_turn",.z "all",.z "bool",.z "enumerate",.z "int",.z "isinstance",.z "len",.z "list",.z "max",.z "min",.z "range",.z "sorted",.z "sum",.z "tuple",.z "zip",.gi "BRIM" 4,.gi "DELAY" 3,.gi "DOWN" 2,.gi "KIND" 0,.gi "LIES" 5,.gi "NAME" 1,.gi "NEED" 4,.gi "PLACES" 1,.gi "PUMP" 6,.gi "PUMP_DELAY" 1,.gi "PUMP_TO" 0,.gi "RANK" 5,.gi "ROW_DOWN" 0,.gi "ROW_NEED" 2,.gi "ROW_RANK" 3,.gi "ROW_WATER" 1,.gi "RULE" 5,.gs "SEA" "sea",.gi "YEAR" 0]
theorem all_mk {l:PySem.W.OpenLaw} {w:World} {K:PySem.W.Frag} {h:Heap} {mg:Str->Option Value} {fa:Addr} (X:K.In h) (G:h.Ns mainGlobals mg) (hfa:mg "law"=some (.ref fa)) (S:AllSaid K asks):
  ∃fd:FuncData,(∀(s:Shared) (v:Value),BindsTo s fd ⟨[v],[]⟩ [("_law_script",v)])/\∀base:Heap,K.In base->base.Ns mainGlobals mg->FnOk l.prog w K mg base CX0 9 fa fd ["_law_script"] (lF K Mx):=by
 obtain ⟨Ax,Q6,Kp,Be,Ho,Hi,Qn,Ot,Ox,Ks,Oq,Pz,Ph,Qj,Q8,Qw,J9,Od,R1,Kz,Ql,Ss,Ng,Lb,Le,O5,Oz,Qm,Tj,Lk,Kl,Q0,Qv,Pj,Oi,Tz,Qf,Rn,Sw,Qd,Q3,Sg,Ou,U4,Jy,W4,O4,Ww,V2,ZPw,ZPx,ZPy,ZPz,ZP0,ZP1,ZP2,ZP3,ZP4,ZP5,ZP6,ZP7,ZP8,ZP9,ZBd,Wr,ZBq,Qa,ZCj,ZBU,ZBx,Jp,S7,ZAB,ZA6,ZBh,Q7,ZBP,ZAo,ZBe,ZAu,ZCw,Yr,_⟩:=S
 have T:Txt K mg:=⟨Cz X G Q6 (λ_ _ _ _ _ _ us hl=>match us,hl with | [_,_],_=>rfl),
  Cz X G Kp (λ_ _ _ _ _ _ us hl=>match us,hl with | [_],_=>rfl),
  Cz X G Be (λ_ _ _ _ _ _ us hl=>match us,hl with | [_,_],_=>rfl),
  Cz X G Ho (λ_ _ _ _ _ _ us hl=>match us,hl with | [_,_],_=>rfl),
  Cz X G Hi (λ_ _ _ _ _ _ us hl=>match us,hl with | [_],_=>rfl),
  Cz X G Qn (λ_ _ _ _ _ _ us hl=>match us,hl with | [_,_,_],_=>rfl),
  Cz X G Ot (λ_ _ _ _ _ _ us hl=>match us,hl with | [_],_=>rfl),
  Cz X G Ox (λ_ _ _ _ _ _ us hl=>match us,hl with | [_,_,_],_=>rfl),
  Cz X G Ks (λ_ _ _ _ _ _ us hl=>match us,hl with | [_],_=>rfl),
  Cz X G Oq (λ_ _ _ _ _ _ us hl=>match us,hl with | [_,_,_,_],_=>rfl),
  Cz X G Pz (λ_ _ _ _ _ _ us hl=>match us,hl with | [_,_,_,_,_],_=>rfl),
  Cz X G Ph (λ_ _ _ _ _ _ us hl=>match us,hl with | [_,_,_],_=>rfl),
  Cz X G Qj (λ_ _ _ _ _ _ us hl=>match us,hl with | [_],_=>rfl),
  Cz X G Q8 (λ_ _ _ _ _ _ us hl=>match us,hl with | [_,_],_=>rfl),
  Cz X G Qw (λ_ _ _ _ _ _ us hl=>match us,hl with | [_],_=>rfl),
  Cz X G J9 (λ_ _ _ _ _ _ us hl=>match us,hl with | [_],_=>rfl),
  Cz X G Od (λ_ _ _ _ _ _ us hl=>match us,hl with | [_,_],_=>rfl),
  Cz X G R1 (λ_ _ _ _ _ _ us hl=>match us,hl with | [_,_],_=>rfl),
  Cz X G Kz (λ_ _ _ _ _ _ us hl=>match us,hl with | [_],_=>rfl),
  Cz X G Ql (λ_ _ _ _ _ _ us hl=>match us,hl with | [_,_],_=>rfl),
  Nt Ss (λ_ _ _ _ _ _ us hl=>match us,hl with | [_,_,_,_,_],_=>rfl),
  Nt Ng (λ_ _ _ _ _ _ us hl=>match us,hl with | [_,_,_,_],_=>rfl),
  Cz X G Lb (λ_ _ _ _ _ _ us hl=>match us,hl with | [_,_],_=>rfl),
  Cz X G Le (λ_ _ _ _ _ _ us hl=>match us,hl with | [_,_],_=>rfl),
  Nt O5 (λ_ _ _ _ _ _ us hl=>match us,hl with | [_,_,_],_=>rfl),
  Cz X G Oz (λ_ _ _ _ _ _ us hl=>match us,hl with | [_,_],_=>rfl),
  Cz X G Qm (λ_ _ _ _ _ _ us hl=>match us,hl with | [_,_],_=>rfl),
  Nt Tj (λ_ _ _ _ _ _ us hl=>match us,hl with | [_,_],_=>rfl),
  Cz X G Lk (λ_ _ _ _ _ _ us hl=>match us,hl with | [_,_],_=>rfl),
  Cz X G Kl (λ_ _ _ _ _ _ us hl=>match us,hl with | [_,_],_=>rfl),
  Cz X G Q0 (λ_ _ _ _ _ _ us hl=>match us,hl with | [_,_,_],_=>rfl),
  Cz X G Qv (λ_ _ _ _ _ _ us hl=>match us,hl with | [_],_=>rfl),
  Cz X G Pj (λ_ _ _ _ _ _ us hl=>match us,hl with | [_,_],_=>rfl),
  Cz X G Oi (λ_ _ _ _ _ _ us hl=>match us,hl with | [_],_=>rfl),
  Nt Tz (λ_ _ _ _ _ _ us hl=>match us,hl with | [_,_],_=>rfl),
  Cz X G Qf (λ_ _ _ _ _ _ us hl=>match us,hl with | [_],_=>rfl),
  Nt Rn (λ_ _ _ _ _ _ us hl=>match us,hl with | [_],_=>rfl),
  Nt Sw (λ_ _ _ _ _ _ us hl=>match us,hl with | [_],_=>rfl),
  Cz X G Qd (λ_ _ _ _ _ _ us hl=>match us,hl with | [_,_,_,_],_=>rfl),
  Cz X G Q3 (λ_ _ _ _ _ _ us hl=>match us,hl with | [_,_,_,_],_=>rfl),
  Cz X G Sg (λ_ _ _ _ _ _ us hl=>match us,hl with | [_],_=>rfl),
  ZNL X G Ax Ss,
  Ou,
  U4,
  Jy,
  W4,
  O4,
  Ww,
  V2,
  PySem.W.mg_none_of X G ZPw,
  PySem.W.mg_none_of X G ZPx,
  PySem.W.mg_none_of X G ZPy,
  PySem.W.mg_none_of X G ZPz,
  PySem.W.mg_none_of X G ZP0,
  PySem.W.mg_none_of X G ZP1,
  PySem.W.mg_none_of X G ZP2,
  PySem.W.mg_none_of X G ZP3,
  PySem.W.mg_none_of X G ZP4,
  PySem.W.mg_none_of X G ZP5,
  PySem.W.mg_none_of X G ZP6,
  PySem.W.mg_none_of X G ZP7,
  PySem.W.mg_none_of X G ZP8,
  PySem.W.mg_none_of X G ZP9,
  PySem.W.mg_of X G ZBd,
  PySem.W.mg_of X G Wr,
  PySem.W.mg_of X G ZBq,
  PySem.W.mg_of X G Qa,
  PySem.W.mg_of X G ZCj,
  PySem.W.mg_of X G ZBU,
  PySem.W.mg_of X G ZBx,
  PySem.W.mg_of X G Jp,
  PySem.W.mg_of X G S7,
  PySem.W.mg_of X G ZAB,
  PySem.W.mg_of X G ZA6,
  PySem.W.mg_of X G ZBh,
  PySem.W.mg_of X G Q7,
  PySem.W.mg_of X G ZBP,
  PySem.W.mg_of X G ZAo,
  PySem.W.mg_of X G ZBe,
  PySem.W.mg_of X G ZAu,
  PySem.W.mg_of X G ZCw,
  PySem.W.mg_of X G Yr⟩
 have eL:mg "law"=some (.ref (Bk K "law")):=PySem.W.mg_of X G Sg.1;obtain rfl:fa=Bk K "law":=by rw [hfa] at eL;cases eL;rfl
 exact ⟨_,λs v=>ZPY (U6 Sg.2),λbase _ _=>ZN9 T⟩
theorem walk {l:PySem.W.OpenLaw} {q:Program} {loose:List Str} {XP:(Str->Option Value)->Heap->Prop} {YP:World->Heap->Prop} {d:DefRec} {K:World->PySem.W.Frag} (hn:l.most=some 63) (hdf:d.params.defaults= []) (HH:Holds)
  (hY:∀(w:World) (h:Heap),YP w h->(K w).In h)
  (F:∀(w:World) (mg:Str->Option Value) (fa:Addr) (h:Heap),(K w).In h->h.Ns mainGlobals mg->mg d.name=some (.ref fa)->
   ∃fd:FuncData,(∀(s:Shared) (u:Value),BindsTo s fd ⟨[u],[]⟩ [("_law_script",u)])/\∀base:Heap,(K w).In base->base.Ns mainGlobals mg->FnOk l.prog w (K w) mg base CX0 9 fa fd ["_law_script"] (lF (K w) Mx)):
  PySem.W.WalkO q loose XP YP l.row.toRowW d [] (λf vs=>PySem.call f vs):=
 L2.ZLl (n:=63) (k:=9) (x:="_law_script") (CX:=λ_=>CX0) (sp:=λw=>lF (K w) Mx) hn (by decide) hdf ⟨rfl,by decide,by decide⟩ hY F
  (λw H a ns hl hO hS=>by
   obtain ⟨G,hG⟩:=HH ns hl;refine ⟨⟨K w,0,λ_=>0,H⟩,[],[.fl (ns.map D.int)],rfl,rfl,⟨rfl,λi j h=>absurd h (Nat.not_lt_zero _),λi o h=>by simp at h,λi h=>absurd h (Nat.not_lt_zero _)⟩,Reps.cons ⟨a,ns.map V.int,rfl,?_,Reps.ints ns⟩ Reps.nil,?_⟩
   ·rcases hS with (hS | hS) | hS
    ·rcases hO a with z | ⟨o,xs,z⟩
     ·rw [z] at hS;cases hS
     ·rw [z] at hS;cases hS
    ·exact .inl hS
    ·exact .inr hS
   ·rw [hG];exact λb v _ _ r=>r) λ_ _ _ _ _ z=>z
end Law
set_option maxRecDepth 100000
namespace Law
open PySem PySem.W L2 DL
abbrev rw_:OpenLaw:=PySem.Challenge.rw_sluiceway_k37_whole_no_cube_is_lost
abbrev pw:Program:=OpenLaw.prog PySem.Challenge.rw_sluiceway_k37_whole_no_cube_is_lost
def vw:Program:=view pw (List.range 62)
theorem ZL8:∀w os,(ZB4 pw w os).map (λs=>(Zy pw w s.abs,PySem.W.Fast.tw4187177175401517315 vw [] (PySem.W.Fast.tw5923862056798008813 pw.main.body) (XtOf rw_ vw) true s.abs,ZBR asks s.abs.heap))=some (true,openGood vw [],ZAw asks):=λw os=>by kernel_rfl
theorem ZFj:∀w,(openEnds treeTable pw w 100000).map (λs=>(openSeen vw [] (importedModules pw.main.body) (XtOf rw_ vw) true s,ZBR asks s.heap))=some (openGood vw [],ZAw asks):=ZMp (by kernel_rfl) (λs=>rfl) ZL8
theorem well:rw_.wellSaid=true:=ZPr (by kernel_rfl)
theorem hdef:defOf vw rw_.row.name=some (dOf Io,[]):=by kernel_rfl
theorem hp:rw_.row.prog.theDef rw_.row.name=some ((dOf Io).params,(dOf Io).body,(dOf Io).scope):=by kernel_rfl
theorem hk:kwWritten? (dOf Io).params.kwonlyargs (dOf Io).params.kw_defaults=some []:=by kernel_rfl
theorem hok:(chainsOk vw && opensWell rw_.row.prog && (frees rw_.row.toRowW && rw_.row.within.isEmpty))=true:=by kernel_rfl
theorem hdf:(dOf Io).params.defaults= []:=by kernel_rfl
theorem hbare:rw_.row.prog.bare:=⟨rfl,rfl,rfl,rfl,rfl,by decide +kernel⟩
theorem hw:rw_.row.toRowW.promised:=by w_witness2
theorem walked:WalkO vw [] (XL vw []) (Stays rw_.prog 100000) rw_.row.toRowW (dOf Io) [] λf vs=>PySem.call f vs:=
 walk (l:=rw_) (K:=λw=>Tg (Lj pw 100000 w)) rfl hdf holds (λw h Y=>Y.in) λw mg fa h KX G hmg=>all_mk KX G (show mg "law"=_ from hmg) (ZEl (ZOM ZFj w))
end Law
open PySem PySem.W PyProof.Rows DL
theorem PySem.Challenge.cw_sluiceway_k37_whole_no_cube_is_lost_holds : PySem.Challenge.rw_sluiceway_k37_whole_no_cube_is_lost.Holds := by
 refine holds_top (l:=Law.rw_) (q:=Law.vw) (loose:= []) (N:=100000) (see:=ZBR Law.asks) (val:=ZAw Law.asks) (d:=dOf Law.Io) ?_ ?_ ?_ ?_ ?_ ?_ ?_ ?_ ?_ ?_
 ·exact Law.well
 ·exact Law.ZFj
 ·exact Law.hdef
 ·exact Law.hp
 ·exact Law.hk
 ·rfl
 ·exact Law.hok
 ·exact Law.hbare
 ·exact Law.hw
 ·exact Law.walked
