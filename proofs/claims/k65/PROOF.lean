import PyProof.Rows.All
import Wide.All
import OpenK.AllK
import Wide.FinOn
import Lean
import PyProof.EqAt
import PyProof.EqKinds
import PyProof.TupleCall
import PyProof.NeKinds
import PyProof.IsInstanceH
import PyProof.SumWalkG
import PyProof.ConsumeWalk
import PyProof.IsiNone
import PyProof.WalksMore
import PyProof.PlainList
import PyProof.CompFree
import KE.KIntText
import PySem.Challenge.RW_sluiceway_k65_whole_no_flow_earns_more
set_option Elab.async false
set_option linter.all false
set_option maxRecDepth 100000
set_option maxHeartbeats 0
noncomputable section
namespace L2
open PySem PySem.Spec PyProof.Rows
variable {us:List Value} {u:Value} {a b C:Addr} {P:Program} {w:World} {h base:Heap} {t' i k:Nat} {ch fp:List Addr} {x:Str} {e c tg:Expr} {A:Around} {E Q:Value->Shared->Prop} {s:Shared} {pins:List (Addr×Obj)} {op:CmpOp} {K:PySem.W.Frag} {body:List Stmt} {pl:Sem Bool} {kw:List (Str×Value)} {mg:Str->Option Value} {kindOf:Str->Option NameKind}
noncomputable abbrev Key:=Sum Int Str
noncomputable def ZCk:Key->Value->Bool
 | .inl k,v=>Value.isInt k v
 | .inr x,v=>Value.isStrOf x v
noncomputable def keyH (w:World):Key->Int
 | .inl k=>hashInt k
 | .inr x=>hashStr w x
theorem Iw:∀{k:Key} {v:Value},ZCk k v=true->(∃i t,k=Sum.inl i/\v=Value.int i t)∨(∃x t,k=Sum.inr x/\v=Value.str x t)
 | .inl i,v,h=>by obtain ⟨t,e⟩:=Value.isInt_shape (k:=i) (v:=v) h;exact .inl ⟨i,t,rfl,e⟩
 | .inr x,v,h=>by obtain ⟨t,e⟩:=Value.isStrOf_shape (x:=x) (v:=v) h;exact .inr ⟨x,t,rfl,e⟩
theorem ZHk (a b:Int):decide ((Sum.inl a:Key)=Sum.inl b)=(a == b):=by
 by_cases e:a=b
 ·subst e;simp
 ·have h:¬(Sum.inl a:Key)=Sum.inl b:=λq=>e (Sum.inl.inj q)
  rw [decide_eq_false h];exact (beq_eq_false_iff_ne.mpr e).symm
theorem ZJp (a b:Str):decide ((Sum.inr a:Key)=Sum.inr b)=decide (a=b):=by
 by_cases e:a=b
 ·subst e;simp
 ·have h:¬(Sum.inr a:Key)=Sum.inr b:=λq=>e (Sum.inr.inj q)
  rw [decide_eq_false h,decide_eq_false e]
theorem ZJb (a:Int) (b:Str):decide ((Sum.inl a:Key)=Sum.inr b)=false:=decide_eq_false (λq=>nomatch q)
theorem ZLB (a:Str) (b:Int):decide ((Sum.inr a:Key)=Sum.inl b)=false:=decide_eq_false (λq=>nomatch q)
noncomputable def ZBV (prog:Program) (w:World):PySem.KeyKind prog w Key where
 is:=ZCk
 hash:=keyH w
 inj:=λv a b ha hb=>by
  rcases Iw ha with ⟨i,t,rfl,rfl⟩ | ⟨x,t,rfl,rfl⟩
  ·rcases Iw hb with ⟨j,u,rfl,e⟩ | ⟨y,u,rfl,e⟩
   ·injection e with e1 _;rw [e1]
   ·exact nomatch e
  ·rcases Iw hb with ⟨j,u,rfl,e⟩ | ⟨y,u,rfl,e⟩
   ·exact nomatch e
   ·injection e with e1 _;rw [e1]
 byValue:=λk v h=>by rcases Iw h with ⟨i,t,rfl,rfl⟩ | ⟨x,t,rfl,rfl⟩ <;> rfl
 pyHash:=λhv h=>by
  rcases Iw hv with ⟨i,t,rfl,rfl⟩ | ⟨x,t,rfl,rfl⟩
  ·exact wpAny_pyHash_int h
  ·exact wpAny_pyHash_str h
 eqBool:=λhu hv h=>by
  rcases Iw hu with ⟨i,t,rfl,rfl⟩ | ⟨x,t,rfl,rfl⟩
  ·rcases Iw hv with ⟨j,u,rfl,rfl⟩ | ⟨y,u,rfl,rfl⟩
   ·rw [ZHk] at h;exact wpAny_eqBool_int h
   ·rw [ZJb] at h;exact SeqAt.EqAt.int_str i t y u _ _ _ _ h
  ·rcases Iw hv with ⟨j,u,rfl,rfl⟩ | ⟨y,u,rfl,rfl⟩
   ·rw [ZLB] at h;exact SeqAt.EqAt.str_int x t j u _ _ _ _ h
   ·rw [ZJp] at h;exact wpAny_eqBool_str h
 «strs»:=λk x t v h=>by
  rcases Iw h with ⟨i,u,rfl,e⟩ | ⟨y,u,rfl,e⟩
  ·exact nomatch e
  ·injection e with e1 _
   subst e1
   cases v <;> rfl
inductive V where
 | non | bl (b:Bool) | int (i:Int) | str (x:Str) | byt (b:Array UInt8) | flt (b:UInt64) | ref (a:Addr) | ty (n:String)
 deriving DecidableEq
variable {v y:V} {vs:List V}
noncomputable def RelV:V->Value->Prop
 | .non,u=>u=Value.none
 | .bl b,u=>u=Value.bool b
 | .int i,u=>∃t,u=Value.int i t
 | .str x,u=>∃t,u=Value.str x t
 | .byt b,u=>∃t,u=Value.bytes b t
 | .flt b,u=>∃t,u=Value.float b t
 | .ref a,u=>u=Value.ref a
 | .ty n,u=>u=Value.type n
noncomputable abbrev Vals:List V->List Value->Prop:=Paired RelV
theorem Vals.length {xs:List V} (r:Vals xs us):xs.length=us.length:=Paired.length r
theorem Vals.get:∀{xs:List V} {us:List Value} {i:Nat} {x:V},Vals xs us->xs[i]? =some x->∃u,us[i]? =some u/\RelV x u
 | _,_,_,_,.nil,e=>by simp at e
 | _,_,0,_,.cons r _,e=>by simp at e;subst e;exact ⟨_,rfl,r⟩
 | _,_,i + 1,x,.cons _ t,e=>by obtain ⟨u,h1,h2⟩:=Vals.get (i:=i) (x:=x) t (by simpa using e);exact ⟨u,by simpa using h1,h2⟩
theorem Vals.set {x:V} (r:RelV x u):∀{xs:List V} {us:List Value} (i:Nat),Vals xs us->Vals (xs.set i x) (us.set i u)
 | _,_,_,.nil=>.nil
 | _,_,0,.cons _ t=>.cons r t
 | _,_,i + 1,.cons q t=>.cons q (Vals.set r i t)
theorem Vals.append:∀{xs ys:List V} {us ws:List Value},Vals xs us->Vals ys ws->Vals (xs++ys) (us++ws)
 | _,_,_,_,.nil,s=>s
 | _,_,_,_,.cons r t,s=>.cons r (Vals.append t s)
theorem Vals.take:∀{xs:List V} {us:List Value} (n:Nat),Vals xs us->Vals (xs.take n) (us.take n)
 | _,_,0,_=>.nil
 | _,_,_ + 1,.nil=>.nil
 | _,_,n + 1,.cons r t=>.cons r (Vals.take n t)
theorem Vals.drop:∀{xs:List V} {us:List Value} (n:Nat),Vals xs us->Vals (xs.drop n) (us.drop n)
 | _,_,0,r=>r
 | _,_,_ + 1,.nil=>.nil
 | _,_,n + 1,.cons _ t=>Vals.drop n t
noncomputable def RelO:Option V->Option Value->Prop
 | some v,some u=>RelV v u
 | none,none=>True
 | _,_=>False
noncomputable def KV {κ:Type}:List (κ×V)->List (κ×Value)->Prop:=Paired λ(p:κ×V) (q:κ×Value)=>p.1=q.1/\RelV p.2 q.2
noncomputable def kV:Key->V
 | .inl i=>.int i
 | .inr x=>.str x
inductive HO where
 | lst (xs:List V)
 | tup (xs:List V)
 | dK (kvs:List (Key×V)) | dT (kvs:List (List Key×V))
 | set (S:Int->Bool) (n:Nat)
 | ins (C dx:Addr) (fs:List (Str×V))
 | own (x:Addr)
 | xd (fs:List (Str×V))
 | met (f x:Addr)
 | rng (lo hi:Int)
 | frz (o:Obj) (u:HO)
 | tbl (ps:Array Value)
 | ext (φ:Heap->Prop)
variable {o:HO}
noncomputable abbrev Hp:=Addr->Option HO
variable {H:Hp}
noncomputable def upd (H:Hp) (a:Addr) (o:HO):Hp:=λb=>if b=a then some o else H b
theorem Dt:upd H a o a=some o:=by unfold upd;rw [if_pos rfl]
theorem Ao (h:b≠a):upd H a o b=H b:=by unfold upd;rw [if_neg h]
theorem Ft (h:H a=some o) (h':H b=none):a≠b:=by intro e;subst e;rw [h] at h';cases h'
section
variable (P:Program) (w:World)
noncomputable def ObjOk (H:Hp) (h:Heap) (a:Addr):HO->Prop
 | .lst xs=>xs.length<=sizeLine/\∃(its:List Value) (n:Nat),Vals xs its/\h.get? a=some {cls:=.type "list",data:=.seq its.toArray n}
 | .tup xs=>xs.length<=sizeLine/\∃its:List Value,Vals xs its/\IsTup h a its.toArray
 | .dK kvs=>kvs.length<=sizeLine/\(a == sysModules)=false/\∃vs,KV kvs vs/\h.DictOf (ZBV P w) a vs
 | .dT kvs=>kvs.length<=sizeLine/\(a == sysModules)=false/\∃xs:List (List Key×Addr×Value),
   Paired (λ(p:List Key×V) (q:List Key×Addr×Value)=>p.1=q.1/\H q.2.1=some (.tup (p.1.map kV))/\RelV p.2 q.2.2) kvs xs/\
   ∃o es ep,h.get? a=some o/\o.ExactDict/\o.data=.dict es ep/\es.toList=xs.map (entryOfKey (tupleKind (ZBV P w)))/\(xs.map (·.1)).Nodup
 | .set S n=>h.SetOf (intKind P w) a S n
 | .ins C dx fs=>H dx=some (.own a)/\fs.length<=1000/\dx≠a/\h.get? a=some (PySem.W.instObj C dx)/\
   ∃mA,h.Ns1 dx mA/\(∀f,RelO (fs.lookup f) (mA f))/\PySem.Within mA (fs.map (·.1))
 | .own _=>∃o,h.get? a=some o
 | .xd fs=>∃mA,h.Ns1 a mA/\∀f,RelO (fs.lookup f) (mA f)
 | .rng lo hi=>∃t u v,h.get? a=some {cls:=.type "range",data:=.fields #[.int lo t,.int hi u,.int 1 v]}
 | .frz o u=>h.get? a=some o/\ObjOk H h a u
 | .tbl ps=>h.get? a=some {cls:=.none,data:=.fields ps}
 | .met f x=>h.get? a=some (PySem.W.methodObj (.ref f) (.ref x))
 | .ext φ=>φ h/\(∃o,h.get? a=some o)/\∀h1 h2:Heap,φ h1->(∀o,h1.get? a=some o->h2.get? a=some o)->φ h2
noncomputable def HOk (H:Hp) (h:Heap):Prop:=∀a o,H a=some o->ObjOk P w H h a o
end
section
variable {P:Program} {w:World} {H H':Hp} {h h':Heap} {a:Addr} {o:HO}
theorem ObjOk.lt (x:ObjOk P w H h a o):a < h.objs.size:=by
 cases o with
 | lst xs=>obtain ⟨_,_,_,_,e⟩:=x;exact Heap.lt_size e
 | tup xs=>obtain ⟨_,_,_,p⟩:=x;exact p.lt
 | dK kvs=>obtain ⟨_,_,_,_,o,_,_,e,_⟩:=x;exact Heap.lt_size e
 | dT kvs=>obtain ⟨_,_,_,_,o,_,_,e,_⟩:=x;exact Heap.lt_size e
 | set S n=>obtain ⟨o,_,_,_,e,_⟩:=x;exact Heap.lt_size e
 | ins C dx fs=>obtain ⟨_,_,_,e,_⟩:=x;exact Heap.lt_size e
 | own y=>obtain ⟨_,e⟩:=x;exact Heap.lt_size e
 | xd fs=>obtain ⟨_,⟨_,_,_,e,_⟩,_⟩:=x;exact Heap.lt_size e
 | rng lo hi=>obtain ⟨_,_,_,e⟩:=x;exact Heap.lt_size e
 | frz ob u=>obtain ⟨e,_⟩:=x;exact Heap.lt_size e
 | tbl ps=>exact Heap.lt_size (show h.get? a=some _ from x)
 | met f y=>exact Heap.lt_size (show h.get? a=some _ from x)
 | ext φ=>obtain ⟨_,⟨_,e⟩,_⟩:=x;exact Heap.lt_size e
theorem Paired.mapP {α β:Type} {F G:α->β->Prop}:∀{l₁:List α} {l₂:List β},Paired F l₁ l₂->(∀a b,F a b->G a b)->Paired G l₁ l₂
 | _,_,.nil,_=>.nil
 | _,_,.cons r t,f=>.cons (f _ _ r) (Paired.mapP t f)
theorem ObjOk.stay (x:ObjOk P w H h a o) (k:∀b u,(b=a∨H b=some (.own a))->h.get? b=some u->h'.get? b=some u)
  (ho:∀b,H b=some (.own a)->H' b=some (.own a)) (ht:∀b xs,H b=some (.tup xs)->H' b=some (.tup xs)):ObjOk P w H' h' a o:=by
 induction o with
 | lst xs=>obtain ⟨z,its,n,r,e⟩:=x;exact ⟨z,its,n,r,k _ _ (.inl rfl) e⟩
 | tup xs=>obtain ⟨z,its,r,ob,e,c⟩:=x;exact ⟨z,its,r,ob,k _ _ (.inl rfl) e,c⟩
 | dK kvs=>obtain ⟨z,y,vs,r,ob,es,ep,e,c⟩:=x;exact ⟨z,y,vs,r,ob,es,ep,k _ _ (.inl rfl) e,c⟩
 | dT kvs=>
  obtain ⟨z,y,xs,r,ob,es,ep,e,c⟩:=x;exact ⟨z,y,xs,Paired.mapP r λp q z=>⟨z.1,ht _ _ z.2.1,z.2.2⟩,ob,es,ep,k _ _ (.inl rfl) e,c⟩
 | set S n=>obtain ⟨ob,es,ep,t,e,c⟩:=x;exact ⟨ob,es,ep,t,k _ _ (.inl rfl) e,c⟩
 | ins C dx fs=>
  obtain ⟨d,z,ne,e,mA,⟨od,es,ep,e2,c⟩,r⟩:=x;exact ⟨ho _ d,z,ne,k _ _ (.inl rfl) e,mA,⟨od,es,ep,k _ _ (.inr d) e2,c⟩,r⟩
 | own y=>obtain ⟨ob,e⟩:=x;exact ⟨ob,k _ _ (.inl rfl) e⟩
 | xd fs=>obtain ⟨mA,⟨od,es,ep,e,c⟩,r⟩:=x;exact ⟨mA,⟨od,es,ep,k _ _ (.inl rfl) e,c⟩,r⟩
 | rng lo hi=>obtain ⟨t,u,v,e⟩:=x;exact ⟨t,u,v,k _ _ (.inl rfl) e⟩
 | frz ob u ih=>obtain ⟨e,q⟩:=x;exact ⟨k _ _ (.inl rfl) e,ih q⟩
 | tbl ps=>
  have e:h.get? a=some {cls:=.none,data:=.fields ps}:=x;show h'.get? a=some {cls:=.none,data:=.fields ps};exact k a _ (.inl rfl) e
 | met f y=>
  have e:h.get? a=some (PySem.W.methodObj (.ref f) (.ref y)):=x;show h'.get? a=some (PySem.W.methodObj (.ref f) (.ref y));exact k a _ (.inl rfl) e
 | ext φ=>obtain ⟨p,⟨o,e⟩,st⟩:=x;exact ⟨st _ _ p λo q=>k _ _ (.inl rfl) q,⟨o,k _ _ (.inl rfl) e⟩,st⟩
theorem HOk.lt (x:HOk P w H h) (e:H a=some o):a < h.objs.size:=(x a o e).lt
theorem HOk.fresh (x:HOk P w H h) (e:h.objs.size<=a):H a=none:=by
 cases q:H a with
 | none=>rfl
 | some u=>exact absurd (Nat.lt_of_lt_of_le (x.lt q) e) (Nat.lt_irrefl _)
theorem HOk.kept (x:HOk P w H h) (k:∀b u,h.get? b=some u->h'.get? b=some u):HOk P w H h':=λa o e=>
 (x a o e).stay (λb u _ q=>k b u q) (λ_ q=>q) λ_ _ q=>q
theorem HOk.laid (x:HOk P w H h) (k:∀b u,h.get? b=some u->h'.get? b=some u) (hp:h.objs.size<=a) (new:ObjOk P w (upd H a o) h' a o):HOk P w (upd H a o) h':=λb u e=>by
 have hn:=x.fresh hp;by_cases hb:b=a
 ·subst hb;rw [Dt] at e;cases e;exact new
 ·rw [Ao hb] at e;exact (x b u e).stay (λc v _ q=>k c v q) (λc q=>by rw [Ao (Ft q hn)];exact q) λc xs q=>by rw [Ao (Ft q hn)];exact q
end
noncomputable def Rd (H:Hp) (a:Addr) (u:HO):Prop:=H a=some u∨∃o,H a=some (.frz o u)
theorem Rd.ok {u:HO} (r:Rd H a u) (x:HOk P w H h):ObjOk P w H h a u:=by
 rcases r with r | ⟨o,r⟩
 ·exact x a u r
 ·obtain ⟨_,q⟩:=x a _ r;exact q
noncomputable def Mut:Option HO->Prop
 | some (.lst _)=>True
 | some (.dK _)=>True
 | some (.dT _)=>True
 | some (.set _ _)=>True
 | some (.ins _ _ _)=>True
 | some (.ext _)=>True
 | _=>False
section
variable {P:Program} {w:World} {H:Hp} {h h':Heap} {x e:Addr} {o':HO}
theorem HOk.write (ok:HOk P w H h) (mu:Mut (H x)) (he:e=x∨H e=some (.own x)) (k:∀b u,b≠e->h.get? b=some u->h'.get? b=some u) (heo:∃u,h'.get? e=some u)
  (new:ObjOk P w (upd H x o') h' x o'):HOk P w (upd H x o') h':=λb u q=>by
 have nown:∀c y,H c=some (.own y)->c≠x:=λc y r z=>by subst z;rw [r] at mu;exact mu
 have ntup:∀c xs,H c=some (.tup xs)->c≠x:=λc xs r z=>by subst z;rw [r] at mu;exact mu
 by_cases hb:b=x
 ·subst hb;rw [Dt] at q;cases q;exact new
 ·rw [Ao hb] at q;by_cases hbe:b=e
  ·have q':H b=some (.own x):=by
    rcases he with z | z
    ·exact absurd (hbe.trans z) hb
    ·rw [hbe];exact z
   rw [q] at q';cases q';obtain ⟨v,hv⟩:=heo;exact ⟨v,by rw [hbe];exact hv⟩
  ·refine (ok b u q).stay (λc v hc r=>k c v ?_ r) (λc r=>by rw [Ao (nown c b r)];exact r) λc xs r=>by rw [Ao (ntup c xs r)];exact r
   rcases hc with rfl | hc
   ·exact hbe
   ·rintro rfl;rcases he with z | z
    ·exact nown c b hc z
    ·rw [hc] at z;cases z;exact hb rfl
end
structure Un (fs ex:List Addr) (H H':Hp) (h h':Heap):Prop where
 keep:∀b o,h.get? b=some o->H b=none->b ∉ fs->b ∉ ex->h'.get? b=some o
 slot:∀b o,h.get? b=some o->H b=none->b∈fs->b ∉ ex->∃sl,h'.get? b=some {o with slots:=sl}
 free:∀b o,h.get? b=some o->H b=none->b ∉ ex->H' b=none
 there:∀b o,h.get? b=some o->b ∉ ex->∃o',h'.get? b=some o'
 tups:∀b xs,H b=some (.tup xs)->H' b=some (.tup xs)
 frzs:∀b o u,H b=some (.frz o u)->H' b=some (.frz o u)
 tbls:∀b ps,H b=some (.tbl ps)->∃more,H' b=some (.tbl (ps++more))
section
variable {fs fs' ex ex':List Addr} {H H1 H2:Hp} {h h1 h2 h':Heap} {a x e:Addr} {o:HO}
theorem Un.any (u:Un fs ex H H1 h h1) {ob:Obj} (q:h.get? b=some ob) (n:H b=none) (hx:b ∉ ex):∃sl,h1.get? b=some {ob with slots:=sl}:=by
 by_cases hb:b∈fs
 ·exact u.slot b ob q n hb hx
 ·exact ⟨ob.slots,u.keep b ob q n hb hx⟩
theorem Un.kept (k:∀b u,h.get? b=some u->h'.get? b=some u):Un fs ex H H h h':=
 ⟨λb ob q _ _ _=>k b ob q,λb ob q _ _ _=>⟨ob.slots,k b ob q⟩,λ_ _ _ n _=>n,λb ob q _=>⟨ob,k b ob q⟩,λ_ _ q=>q,λ_ _ _ q=>q,λ_ ps q=>⟨#[],by rw [q];simp⟩⟩
theorem Un.refl:Un fs ex H H h h:=Un.kept λ_ _ q=>q
theorem Un.laid (k:∀b u,h.get? b=some u->h'.get? b=some u) (hp:h.objs.size<=a) (hn:H a=none):Un fs ex H (upd H a o) h h' where
 keep:=λb u q _ _ _=>k b u q
 slot:=λb u q _ _ _=>⟨u.slots,k b u q⟩
 free:=λb u q n _=>by rw [Ao (Nat.ne_of_lt (Nat.lt_of_lt_of_le (Heap.lt_size q) hp))];exact n
 there:=λb u q _=>⟨u,k b u q⟩
 tups:=λb xs q=>by rw [Ao (Ft q hn)];exact q
 frzs:=λb u xs q=>by rw [Ao (Ft q hn)];exact q
 tbls:=λb ps q=>⟨#[],by rw [Ao (Ft q hn),q];simp⟩
theorem Un.write (mu:Mut (H x)) (he:e=x∨H e=some (.own x)) (k:∀b u,b≠e->h.get? b=some u->h'.get? b=some u) (heo:∃u,h'.get? e=some u):Un fs ex H (upd H x o) h h':=by
 have hx:∀b,H b=none->b≠x:=λb n z=>by subst z;rw [n] at mu;exact mu
 have hb:∀b,H b=none->b≠e:=λb n z=>by
  subst z;rcases he with r | r
  ·exact hx b n r
  ·rw [n] at r;cases r
 have hm:∀b u,H b=some u->¬Mut (some u)->b≠x:=λb u q nm z=>by subst z;rw [q] at mu;exact nm mu
 refine ⟨λb u q n _ _=>k b u (hb b n) q,λb u q n _ _=>⟨u.slots,k b u (hb b n) q⟩,λb u q n _=>by rw [Ao (hx b n)];exact n,λb u q _=> ?_,
  λb xs q=>by rw [Ao (hm b _ q λz=>z)];exact q,λb u xs q=>by rw [Ao (hm b _ q λz=>z)];exact q,λb ps q=>⟨#[],by rw [Ao (hm b _ q λz=>z),q];simp⟩⟩
 by_cases hbe:b=e
 ·subst hbe;exact heo
 ·exact ⟨u,k b u hbe q⟩
end
noncomputable def trk (h:Heap) (H:Hp):List Addr:=(List.range h.objs.size).filter λa=>(H a).isSome
noncomputable def Hw (h:Heap) (H:Hp):Heap:=PySem.W.hideAll h (trk h H)
theorem ZFf (h:Heap) (H:Hp):(Hw h H).objs.size=h.objs.size:=PySem.W.hideAll_size _ _
theorem ZEH {o:Obj} (e:h.get? b=some o) (n:H b=none):(Hw h H).get? b=some o:=
 PySem.W.hideAll_get _ e λhm=>by have q:(H b).isSome=true:=(List.mem_filter.mp hm).2;rw [n] at q;simp at q
theorem ZKs {o:Obj} (e:(Hw h H).get? b=some o):h.get? b=some o/\H b=none:=by
 have e':h.get? b=some o:=PySem.W.of_hideAll (trk h H) e;refine ⟨e',?_⟩;cases q:H b with
 | none=>rfl
 | some x=>
  have hm:b∈trk h H:=List.mem_filter.mpr ⟨List.mem_range.mpr (Heap.lt_size e'),by simp [q]⟩;have z:(Hw h H).get? b=none:=PySem.W.hideAll_none (trk h H) hm;rw [z] at e;cases e
noncomputable def ZGk (g h:Heap) (L:Addr):List (Addr×Obj):=(List.range h.objs.size).filterMap λa=>if a=L∨(g.get? a).isSome=true then none else (h.get? a).map λo=>(a,o)
noncomputable def rest (g h:Heap) (L d:Addr):List (Addr×Obj):=(ZGk g h L).filter λp=>decide (p.1≠d)
structure Mod (K:PySem.W.Frag) (mg:Str->Option Value) (base:Heap):Prop where
 kin:K.In base
 glob:base.Ns mainGlobals mg
 blt:∃mb,base.Ns builtinsNs mb/\∀x:Str,x≠"__name__"->mb x=bootBuiltins x
 nolimit:base.NoLimit
structure Cx where
 prog:Program
 w:World
 K:PySem.W.Frag
 mg:Str->Option Value
 base:Heap
 A:Around
 N:List Str
 s₀:Shared
 H₀:Hp
 env:Env
 outer:List Env
 stack:List Env
 ex:List Addr
 fn:Str->Bool
 calm:Bool
 pn:List (Addr×Obj)
 xe:Value->Shared->Prop
variable {X:Cx}
noncomputable def frs (l:List Env):List Addr:=l.filterMap (·.frame)
noncomputable abbrev Cx.fs (X:Cx):List Addr:=frs X.outer
noncomputable def Vis (sc:Scope) (x:Str):Prop:=sc.names.lookup x=some .local∨sc.names.lookup x=some .cell∨sc.names.lookup x=some .free
noncomputable def Loc (sc:Scope) (x:Str):Prop:=sc.names.lookup x=some .local∨sc.names.lookup x=some .cell
noncomputable def Look (env:Env) (h:Heap) (m:Str->Option Value) (x:Str) (u:Value):Prop:=
 (env.kindOf x=some .local/\m x=some u)∨((env.kindOf x=some .cell∨env.kindOf x=some .free)/\∃c,env.cells.lookup x=some c/\h.IsCell c (some u))
structure Cx.Ok (X:Cx):Prop where
 mod:Mod X.K X.mg X.base
 kind:X.env.scope.kind=.function
 glob:X.env.globals=mainGlobals
 blt:X.env.builtins=builtinsNs
 above:X.s₀.heap.objs.size<=X.env.locals
 inj:∀x y c,X.env.cells.lookup x=some c->X.env.cells.lookup y=some c->x=y
 has:∀x,(X.env.kindOf x=some .cell∨X.env.kindOf x=some .free)->∃c,X.env.cells.lookup x=some c
 cab:∀x c,X.fn x=true->X.env.cells.lookup x=some c->X.s₀.heap.objs.size<=c
 hd:X.calm=true->X.A.handled=none
 frames:X.A.frames=some X.stack
 stk:X.stack=X.outer∨(X.stack=X.env::X.outer/\X.env.frame=some X.env.locals)
 exf:∀b∈X.ex,b≠X.env.locals/\∀x c,X.env.cells.lookup x=some c->c≠b
 bs:∀b o,X.base.get? b=some o->X.s₀.heap.get? b=some o/\X.H₀ b=none
 bsz:X.base.objs.size<=X.s₀.heap.objs.size
 noex:∀b o,X.base.get? b=some o->b ∉ X.ex
 exfs:∀b∈X.ex,b ∉ X.fs
 funs:X.s₀.heap.FunFrames X.base X.outer
 frf:∀b∈X.fs,X.H₀ b=none
structure Inv (X:Cx) (pins:List (Addr×Obj)) (σ:List (Option V)) (H:Hp) (s:Shared):Prop where
 ok:X.Ok
 os:s.os=X.s₀.os
 bare:AllBare s.gens
 base:Un X.fs X.ex X.H₀ H X.s₀.heap s.heap
 loc:∃m,s.heap.Ns X.env.locals m/\∀(i:Nat) (x:Str) (v:V),X.N[i]? =some x->σ[i]? =some (some v)->Vis X.env.scope x->∃u,RelV v u/\Look X.env s.heap m x u
 cell:∀x c,X.env.cells.lookup x=some c->∃v,s.heap.IsCell c v
 free:H X.env.locals=none
 Gy:∀x c,X.env.cells.lookup x=some c->H c=none
 pin:∀p∈X.pn++pins,s.heap.get? p.1=some p.2/\H p.1=none/\p.1≠X.env.locals/\p.1 ∉ X.fs/\∀v,p.2.data≠ .cell v
 hok:HOk X.prog X.w H s.heap
 len:σ.length=X.N.length
section
variable {X:Cx} {pins:List (Addr×Obj)} {σ:List (Option V)} {H H':Hp} {s:Shared} {h':Heap}
theorem Cx.Ok.nofr (ok:X.Ok) {o:Obj} (e:X.base.get? b=some o):b ∉ X.fs:=λhb=>by have:=(ok.funs.mem hb).1;rw [e] at this;cases this
theorem Inv.bs (I:Inv X pins σ H s):∀b o,X.base.get? b=some o->s.heap.get? b=some o/\H b=none:=λb o e=>
 ⟨I.base.keep b o (I.ok.bs b o e).1 (I.ok.bs b o e).2 (I.ok.nofr e) (I.ok.noex b o e),I.base.free b o (I.ok.bs b o e).1 (I.ok.bs b o e).2 (I.ok.noex b o e)⟩
theorem Inv.bk (I:Inv X pins σ H s):∀b o,X.base.get? b=some o->s.heap.get? b=some o:=λb o e=>(I.bs b o e).1
theorem Inv.mod (I:Inv X pins σ H s):Mod X.K X.mg X.base:=I.ok.mod
theorem Inv.kIn (I:Inv X pins σ H s):X.K.In s.heap:=I.ok.mod.kin.keeps I.bk
theorem Inv.nolimit (I:Inv X pins σ H s):s.heap.NoLimit:=I.ok.mod.nolimit.keeps I.bk
theorem Inv.lt (I:Inv X pins σ H s):X.env.locals < s.heap.objs.size:=let ⟨_,hn,_⟩:=I.loc;hn.lt
theorem Inv.sz (I:Inv X pins σ H s):X.s₀.heap.objs.size<=s.heap.objs.size:=Nat.le_trans I.ok.above (Nat.le_of_lt I.lt)
theorem Inv.nofs (I:Inv X pins σ H s) (h:s.heap.objs.size<=a):a ∉ X.fs:=λhb=>by obtain ⟨_,o,ho,_⟩:=I.ok.funs.mem hb;exact absurd (Nat.lt_of_lt_of_le (Heap.lt_size ho) (Nat.le_trans I.sz h)) (Nat.lt_irrefl _)
theorem Inv.cne (I:Inv X pins σ H s):∀x c,X.env.cells.lookup x=some c->c≠X.env.locals:=λx c e z=>by obtain ⟨v,o,ho,hd⟩:=I.cell x c e;obtain ⟨m,⟨o',es,ep,ho',hd',_⟩,_⟩:=I.loc;rw [z,ho'] at ho;cases ho;rw [hd'] at hd;cases hd
theorem Inv.funs (I:Inv X pins σ H s):s.heap.FunFrames X.base X.outer:=by
 have all:∀(l:List Env),(∀b∈frs l,b∈X.fs)->X.s₀.heap.FunFrames X.base l->s.heap.FunFrames X.base l:=by
  intro l
  induction l with
  | nil=>intro _ _;trivial
  | cons env r ih=>
   intro hs hl;obtain ⟨hk,⟨L,o,hf,hn,ho,hd⟩,hr⟩:=hl;have hL:L∈X.fs:=hs L (by unfold frs;rw [List.filterMap_cons,hf];exact List.mem_cons_self);obtain ⟨sl,e⟩:=I.base.slot L o ho (I.ok.frf L hL) hL λz=>I.ok.exfs L z hL
   exact ⟨hk,⟨L,_,hf,hn,e,hd⟩,ih (λb hb=>hs b (by unfold frs;rw [List.filterMap_cons,hf];exact List.mem_cons_of_mem _ hb)) hr⟩
 exact all X.outer (λ_ hb=>hb) I.ok.funs
theorem Inv.stack (I:Inv X pins σ H s):s.heap.FunFrames X.base X.stack:=by
 rcases I.ok.stk with e | ⟨e,hf⟩
 ·rw [e];exact I.funs
 ·rw [e];obtain ⟨m,hn,_⟩:=I.loc;refine .cons (by rw [I.ok.kind];decide) hf hn ?_ I.funs;exact Heap.get?_none_of_le (Nat.le_trans I.ok.bsz I.ok.above)
theorem Inv.Qq (I:Inv X pins σ H s):∀b∈frs X.stack,b∈X.env.locals::X.fs:=λb hb=>by
 rcases I.ok.stk with e | ⟨e,hf⟩
 ·rw [e] at hb;exact List.mem_cons_of_mem _ hb
 ·rw [e] at hb;unfold frs at hb;rw [List.filterMap_cons,hf] at hb;exact hb
theorem Inv.Wj (I:Inv X pins σ H s):∀b∈frs X.stack,H b=none:=λb hb=>by
 rcases List.mem_cons.mp (I.Qq b hb) with e | hb
 ·rw [e];exact I.free
 ·obtain ⟨_,o,ho,_⟩:=I.ok.funs.mem hb;exact I.base.free b o ho (I.ok.frf b hb) λz=>I.ok.exfs b z hb
theorem Inv.step {g':Array GenState} {d':Drawn} (I:Inv X pins σ H s)
  (hch:∀b∈ch,(b∈X.ex∨X.s₀.heap.objs.size<=b)/\b≠X.env.locals/\(∀x c,X.env.cells.lookup x=some c->c≠b)/\∀p∈X.pn++pins,p.1≠b)
  (keep:∀b o,b≠X.env.locals->b ∉ X.fs->b ∉ ch->s.heap.get? b=some o->H b=none->h'.get? b=some o)
  (slot:∀b o,b≠X.env.locals->b∈X.fs->b ∉ ch->s.heap.get? b=some o->H b=none->∃sl,h'.get? b=some {o with slots:=sl}) (free:∀b o,b ∉ ch->s.heap.get? b=some o->H b=none->H' b=none)
  (there:∀b o,b ∉ ch->s.heap.get? b=some o->∃o',h'.get? b=some o')
  (tups:∀b xs,H b=some (.tup xs)->H' b=some (.tup xs)) (frzs:∀b o u,H b=some (.frz o u)->H' b=some (.frz o u)) (tbls:∀b ps,H b=some (.tbl ps)->∃more,H' b=some (.tbl (ps++more)))
  (ns:∀m,s.heap.Ns X.env.locals m->h'.Ns X.env.locals m) (hok:HOk X.prog X.w H' h') (hg:AllBare g'):
  Inv X pins σ H' {s with heap:=h',gens:=g',drawn:=d',toks:=t'}:=by
 have neL:∀b o,X.s₀.heap.get? b=some o->b≠X.env.locals:=λb o e=>Nat.ne_of_lt (Nat.lt_of_lt_of_le (Heap.lt_size e) I.ok.above)
 have neC:∀b o,X.s₀.heap.get? b=some o->b ∉ X.ex->b ∉ ch:=λb o e hx hb=>by
  rcases (hch b hb).1 with z | z
  ·exact hx z
  ·exact absurd (Nat.lt_of_lt_of_le (Heap.lt_size e) z) (Nat.lt_irrefl _)
 have cellK:∀x c,X.env.cells.lookup x=some c->∀v,s.heap.IsCell c v->h'.IsCell c v:=λx c e v ⟨o,ho,hd⟩=>by
  have nch:c ∉ ch:=λz=>(hch c z).2.2.1 x c e rfl
  by_cases hc:c∈X.fs
  ·obtain ⟨sl,q⟩:=slot c o (I.cne x c e) hc nch ho (I.Gy x c e);exact ⟨_,q,hd⟩
  ·exact ⟨o,keep c o (I.cne x c e) hc nch ho (I.Gy x c e),hd⟩
 refine ⟨I.ok,I.os,hg,⟨λb o e n hb hx=> ?_,λb o e n hb hx=> ?_,λb o e n hx=> ?_,λb o e hx=> ?_,λb xs e=>tups b xs (I.base.tups b xs e),λb o xs e=>frzs b o xs (I.base.frzs b o xs e),λb ps e=> ?_⟩,?_,λx c e=> ?_,?_,λx c e=> ?_,λp hp=> ?_,hok,I.len⟩
 ·exact keep b o (neL b o e) hb (neC b o e hx) (I.base.keep b o e n hb hx) (I.base.free b o e n hx)
 ·obtain ⟨sl,e1⟩:=I.base.slot b o e n hb hx;obtain ⟨sl',e2⟩:=slot b _ (neL b o e) hb (neC b o e hx) e1 (I.base.free b o e n hx);exact ⟨sl',e2⟩
 ·obtain ⟨o',e1⟩:=I.base.there b o e hx;exact free b o' (neC b o e hx) e1 (I.base.free b o e n hx)
 ·obtain ⟨o',e1⟩:=I.base.there b o e hx;exact there b o' (neC b o e hx) e1
 ·obtain ⟨m1,e1⟩:=I.base.tbls b ps e;obtain ⟨m2,e2⟩:=tbls b _ e1;exact ⟨m1++m2,by rw [e2,Array.append_assoc]⟩
 ·obtain ⟨m,hn,hl⟩:=I.loc;refine ⟨m,ns m hn,λi x v e1 e2 e3=> ?_⟩;obtain ⟨u,r,l⟩:=hl i x v e1 e2 e3;refine ⟨u,r,?_⟩;rcases l with l | ⟨k,c,e,z⟩
  ·exact .inl l
  ·exact .inr ⟨k,c,e,cellK x c e _ z⟩
 ·obtain ⟨v,z⟩:=I.cell x c e;exact ⟨v,cellK x c e v z⟩
 ·obtain ⟨m,⟨o,_,_,ho,_⟩,_⟩:=I.loc;exact free _ o (λz=>(hch _ z).2.1 rfl) ho I.free
 ·obtain ⟨v,o,ho,hd⟩:=I.cell x c e;exact free c o (λz=>(hch c z).2.2.1 x c e rfl) ho (I.Gy x c e)
 ·obtain ⟨e,n,ne,nf,d⟩:=I.pin p hp;have nch:p.1 ∉ ch:=λz=>(hch p.1 z).2.2.2 p hp rfl
  exact ⟨keep p.1 p.2 ne nf nch e n,free p.1 p.2 nch e n,ne,nf,d⟩
theorem Inv.un (I:Inv X pins σ H s) (u:Un X.fs [] H H' s.heap h') (hok:HOk X.prog X.w H' h'):Inv X pins σ H' {s with heap:=h',toks:=t'}:=by
 obtain ⟨m,⟨o,es,ep,ho,r⟩,_⟩:=id I.loc;obtain ⟨sl,hL⟩:=u.any ho I.free (by simp)
 exact I.step (g':=s.gens) (d':=s.drawn) (ch:= []) (λ_ z=>nomatch z) (λb o _ hb _ e n=>u.keep b o e n hb (by simp)) (λb o _ hb _ e n=>u.slot b o e n hb (by simp)) (λb o _ e n=>u.free b o e n (by simp)) (λb o _ e=>u.there b o e (by simp)) u.tups u.frzs u.tbls (λm' hm=>by obtain ⟨o',es',ep',ho',r'⟩:=hm;rw [ho] at ho';cases ho';exact ⟨_,es',ep',hL,r'⟩) hok I.bare
theorem Inv.call {g':Array GenState} {d':Drawn} (I:Inv X pins σ H s) (u:Un (frs X.stack) ch H H' s.heap h') (hok:HOk X.prog X.w H' h') (hg:AllBare g')
  (hch:∀b∈ch,(b∈X.ex∨X.s₀.heap.objs.size<=b)/\b≠X.env.locals/\(∀x c,X.env.cells.lookup x=some c->c≠b)/\∀p∈X.pn++pins,p.1≠b):
  Inv X pins σ H' {s with heap:=h',gens:=g',drawn:=d',toks:=t'}:=by
 obtain ⟨m,⟨o,es,ep,ho,r⟩,_⟩:=id I.loc;obtain ⟨sl,hL⟩:=u.any ho I.free λz=>(hch _ z).2.1 rfl
 exact I.step (ch:=ch) hch (λb o hL hb hc e n=>u.keep b o e n (λz=>(List.mem_cons.mp (I.Qq b z)).elim hL hb) hc) (λb o _ _ hc e n=>u.any e n hc) (λb o hc e n=>u.free b o e n hc) (λb o hc e=>u.there b o e hc) u.tups u.frzs u.tbls (λm' hm=>by obtain ⟨o',es',ep',ho',r'⟩:=hm;rw [ho] at ho';cases ho';exact ⟨_,es',ep',hL,r'⟩) hok hg
theorem Inv.turned {it:Addr} (I:Inv X pins σ H s) (k:∀b o,b≠it->s.heap.get? b=some o->h'.get? b=some o) (hn:H it=none) (hL:it≠X.env.locals)
  (h1:it∈X.ex∨X.s₀.heap.objs.size<=it) (h2:∀x c,X.env.cells.lookup x=some c->c≠it) (h3:∀p∈X.pn++pins,p.1≠it):Inv X pins σ H {s with heap:=h',toks:=t'}:=by
 have nit:∀b u,H b=some u->b≠it:=λb u e z=>by rw [z,hn] at e;cases e
 refine I.step (g':=s.gens) (d':=s.drawn) (ch:= [it]) (λb hb=> ?_) (λb o _ _ hc e _=>k b o (λz=>hc (by simp [z])) e) (λb o _ _ hc e _=>⟨o.slots,k b o (λz=>hc (by simp [z])) e⟩) (λ_ _ _ _ n=>n)
  (λb o hc e=>⟨o,k b o (λz=>hc (by simp [z])) e⟩) (λ_ _ e=>e) (λ_ _ _ e=>e) (λb ps e=>⟨#[],by rw [e];simp⟩) (λm hm=> ?_) (λb u e=> ?_) I.bare
 ·have e:b=it:=by simpa using hb
  subst e;exact ⟨h1,hL,h2,h3⟩
 ·obtain ⟨o,es,ep,ho,r⟩:=hm;exact ⟨o,es,ep,k _ o (Ne.symm hL) ho,r⟩
 ·refine (I.hok b u e).stay (λc v hc q=>k c v ?_ q) (λ_ q=>q) λ_ _ q=>q
  rcases hc with z | z
  ·rw [z];exact nit b u e
  ·exact nit c _ z
theorem Inv.tok (I:Inv X pins σ H s) (t:Nat):Inv X pins σ H {s with toks:=t}:=I.un (h':=s.heap) (t':=t) Un.refl I.hok
theorem Inv.kept (I:Inv X pins σ H s) (k:∀b u,s.heap.get? b=some u->h'.get? b=some u):Inv X pins σ H {s with heap:=h',toks:=t'}:=I.un (Un.kept k) (I.hok.kept k)
theorem Inv.laid (I:Inv X pins σ H s) (k:∀b u,s.heap.get? b=some u->h'.get? b=some u) (hp:s.heap.objs.size<=a) (new:ObjOk X.prog X.w (upd H a o) h' a o):
  Inv X pins σ (upd H a o) {s with heap:=h',toks:=t'}:=I.un (Un.laid k hp (I.hok.fresh hp)) (I.hok.laid k hp new)
theorem Inv.write {x e:Addr} (I:Inv X pins σ H s) (mu:Mut (H x)) (he:e=x∨H e=some (.own x)) (k:∀b u,b≠e->s.heap.get? b=some u->h'.get? b=some u) (heo:∃u,h'.get? e=some u)
  (new:ObjOk X.prog X.w (upd H x o) h' x o):Inv X pins σ (upd H x o) {s with heap:=h',toks:=t'}:=I.un (Un.write mu he k heo) (I.hok.write mu he k heo new)
theorem Inv.Gk {pins':List (Addr×Obj)} (I:Inv X pins σ H s) (h:∀p∈pins',s.heap.get? p.1=some p.2/\H p.1=none/\p.1≠X.env.locals/\p.1 ∉ X.fs/\∀v,p.2.data≠ .cell v):Inv X pins' σ H s:=
 ⟨I.ok,I.os,I.bare,I.base,I.loc,I.cell,I.free,I.Gy,λp hp=>(List.mem_append.mp hp).elim (λz=>I.pin p (List.mem_append_left _ z)) (h p),I.hok,I.len⟩
theorem ZDB {N:List Str} (hN:N.Nodup) {j:Nat} (a:N[i]? =some x) (b:N[j]? =some x):i=j:=by obtain ⟨h1,e1⟩:=List.getElem?_eq_some_iff.mp a;obtain ⟨h2,e2⟩:=List.getElem?_eq_some_iff.mp b;exact (List.getElem_inj hN).mp (e1.trans e2.symm)
theorem ZDt {M:Model} {A:Around} {E:Value->Shared->Prop} {Q:Unit->Shared->Prop} (I:Inv X pins σ H s) (hN:X.N.Nodup) (hi:X.N[i]? =some x) (hx:Loc X.env.scope x) (r:RelV v u)
  (h:∀s',Inv X pins (σ.set i (some v)) H s'->(∃a,Heap.SameBut a s.heap s'.heap/\(a=X.env.locals∨X.env.cells.lookup x=some a))->Q () s') (hf:X.fn x=true∨X.env.scope.names.lookup x=some .local:=by first | exact .inl rfl | exact .inr rfl | assumption):wpAny M A (storeName X.env x u) Q E s:=by
 obtain ⟨m,hn,hl⟩:=id I.loc;have hcls:(X.env.scope.kind == .class || (X.env.scope.kind == .module && X.env.locals != X.env.globals))=false:=by rw [I.ok.kind];rfl
 have hiσ:i < σ.length:=by rw [I.len];exact (List.getElem?_eq_some_iff.mp hi).1
 have cne:=I.cne;have tracked:∀{a:Addr} {h':Heap},(∃o,s.heap.get? a=some o/\H a=none)->Heap.SameBut a s.heap h'->HOk X.prog X.w H h':=λ{a h'} ha hs b ob e=>by
  obtain ⟨_,_,hfree⟩:=ha;refine (I.hok b ob e).stay (λc w' hc q=>(hs.2 c ?_).trans q) (λ_ q=>q) λ_ _ q=>q
  rintro rfl;rcases hc with rfl | hc
  ·rw [hfree] at e;cases e
  ·rw [hfree] at hc;cases hc
 rcases hx with hk | hk
 ·refine wpAny_storeName_local hk hn (λh' hn' hs=> ?_) hcls;obtain ⟨oL,_,_,hoL,_⟩:=id hn;refine h _ ⟨I.ok,I.os,I.bare,⟨λb o e n hb hx=> ?_,λb o e n hb hx=> ?_,I.base.free,λb o e hx=> ?_,I.base.tups,I.base.frzs,I.base.tbls⟩,⟨_,hn',λj y v' e1 e2 e3=> ?_⟩,λy c e=> ?_,I.free,I.Gy,λp hp=> ?_,tracked ⟨oL,hoL,I.free⟩ hs,by simpa using I.len⟩ ⟨_,hs,.inl rfl⟩
  ·exact (hs.2 b (Nat.ne_of_lt (Nat.lt_of_lt_of_le (Heap.lt_size e) I.ok.above))).trans (I.base.keep b o e n hb hx)
  ·obtain ⟨sl,e1⟩:=I.base.slot b o e n hb hx;exact ⟨sl,(hs.2 b (Nat.ne_of_lt (Nat.lt_of_lt_of_le (Heap.lt_size e) I.ok.above))).trans e1⟩
  ·obtain ⟨o',e1⟩:=I.base.there b o e hx;exact ⟨o',(hs.2 b (Nat.ne_of_lt (Nat.lt_of_lt_of_le (Heap.lt_size e) I.ok.above))).trans e1⟩
  ·by_cases hj:j=i
   ·subst hj;rw [hi] at e1;cases e1;rw [List.getElem?_set_self hiσ] at e2;cases e2;exact ⟨u,r,.inl ⟨hk,by simp⟩⟩
   ·rw [List.getElem?_set_ne (Ne.symm hj)] at e2;obtain ⟨u',r',q⟩:=hl j y v' e1 e2 e3;refine ⟨u',r',?_⟩;rcases q with ⟨k,e⟩ | ⟨k,c,e,z⟩
    ·refine .inl ⟨k,?_⟩;have:y≠x:=λe=>hj (ZDB hN e1 (e ▸ hi))
     simp [this,e]
    ·exact .inr ⟨k,c,e,z.sameBut hs (cne y c e)⟩
  ·obtain ⟨w',z⟩:=I.cell y c e;exact ⟨w',z.sameBut hs (cne y c e)⟩
  ·obtain ⟨e,n,ne,nf,d⟩:=I.pin p hp;exact ⟨(hs.2 p.1 ne).trans e,n,ne,nf,d⟩
 ·have hfn:X.fn x=true:=by
   rcases hf with z | z
   ·exact z
   ·rw [z] at hk;cases hk
  obtain ⟨c,hc⟩:=I.ok.has x (.inl hk);obtain ⟨w',z⟩:=I.cell x c hc;refine wpAny_storeName_cell I.ok.kind hk hc z (λh' hc' hs=> ?_);obtain ⟨oc,hoc,hocd⟩:=id z;refine h {s with heap:=h'} ⟨I.ok,I.os,I.bare,⟨λb o e n hb hx=> ?_,λb o e n hb hx=> ?_,I.base.free,λb o e hx=> ?_,I.base.tups,I.base.frzs,I.base.tbls⟩,⟨m,hn.sameBut hs (Ne.symm (cne x c hc)),λj y v' e1 e2 e3=> ?_⟩,λy c' e=> ?_,I.free,I.Gy,λp hp=> ?_,tracked ⟨oc,hoc,I.Gy x c hc⟩ hs,by simpa using I.len⟩ ⟨c,hs,.inr hc⟩
  ·exact (hs.2 b (Nat.ne_of_lt (Nat.lt_of_lt_of_le (Heap.lt_size e) (I.ok.cab x c hfn hc)))).trans (I.base.keep b o e n hb hx)
  ·obtain ⟨sl,e1⟩:=I.base.slot b o e n hb hx;exact ⟨sl,(hs.2 b (Nat.ne_of_lt (Nat.lt_of_lt_of_le (Heap.lt_size e) (I.ok.cab x c hfn hc)))).trans e1⟩
  ·obtain ⟨o',e1⟩:=I.base.there b o e hx;exact ⟨o',(hs.2 b (Nat.ne_of_lt (Nat.lt_of_lt_of_le (Heap.lt_size e) (I.ok.cab x c hfn hc)))).trans e1⟩
  ·by_cases hj:j=i
   ·subst hj;rw [hi] at e1;cases e1;rw [List.getElem?_set_self hiσ] at e2;cases e2;exact ⟨u,r,.inr ⟨.inl hk,c,hc,hc'⟩⟩
   ·rw [List.getElem?_set_ne (Ne.symm hj)] at e2;obtain ⟨u',r',q⟩:=hl j y v' e1 e2 e3;refine ⟨u',r',?_⟩;rcases q with q | ⟨k,c',e,z'⟩
    ·exact .inl q
    ·refine .inr ⟨k,c',e,z'.sameBut hs ?_⟩;rintro rfl;exact hj (ZDB hN e1 (I.ok.inj _ _ _ e hc ▸ hi))
  ·by_cases hcc:c'=c
   ·subst hcc;exact ⟨_,hc'⟩
   ·obtain ⟨w2,z2⟩:=I.cell y c' e;exact ⟨w2,z2.sameBut hs hcc⟩
  ·obtain ⟨e,n,ne,nf,d⟩:=I.pin p hp;refine ⟨(hs.2 p.1 ?_).trans e,n,ne,nf,d⟩;intro q;rw [q,hoc] at e;have q':oc=p.2:=Option.some.inj e;exact d w' (by rw [<-q'];exact hocd)
theorem ZAm {M:Model} {A:Around} {E:Value->Shared->Prop} {Q:Unit->Shared->Prop} (I:Inv X pins σ H s) (hN:X.N.Nodup) (hi:X.N[i]? =some x) (hx:Loc X.env.scope x) (r:RelV v u)
  (h:∀s',Inv X pins (σ.set i (some v)) H s'->Q () s') (hf:X.fn x=true∨X.env.scope.names.lookup x=some .local:=by first | exact .inl rfl | exact .inr rfl | assumption):wpAny M A (storeName X.env x u) Q E s:=
 ZDt I hN hi hx r (λs' I' _=>h s' I') hf
theorem Inv.call' {s':Shared} (I:Inv X pins σ H s) (ho:s'.os=s.os) (u:Un (frs X.stack) ch H H' s.heap s'.heap) (hok:HOk X.prog X.w H' s'.heap) (hg:AllBare s'.gens)
  (hch:∀b∈ch,(b∈X.ex∨X.s₀.heap.objs.size<=b)/\b≠X.env.locals/\(∀x c,X.env.cells.lookup x=some c->c≠b)/\∀p∈X.pn++pins,p.1≠b):Inv X pins σ H' s':=by
 obtain ⟨h',g',d',t',o'⟩:=s';have e:o'=s.os:=ho;subst e;exact I.call (g':=g') (t':=t') (d':=d') u hok hg hch
end
noncomputable abbrev XK:=Value->Option Addr->Hp->Prop
noncomputable abbrev St:=List (Option V)
variable {σ:St}
noncomputable abbrev VK:=V->Hp->Prop
noncomputable abbrev TE:=St->Hp->VK->Prop
variable {t te:TE}
noncomputable abbrev TT:=St->Hp->(Bool->Hp->Prop)->Prop
noncomputable abbrev TA:=St->Hp->(List V->Hp->Prop)->Prop
structure Ends where
 nx:St->Hp->Prop
 rt:VK
 bk:St->Hp->Prop:=λ_ _=>False
 ct:St->Hp->Prop:=λ_ _=>False
noncomputable abbrev TS:=Ends->St->Hp->Prop
noncomputable def EP (X:Cx) (pins:List (Addr×Obj)) (σ:St) (Q:VK) (u:Value) (s':Shared):Prop:=∃v H',Inv X pins σ H' s'/\RelV v u/\Q v H'
noncomputable def TP (X:Cx) (pins:List (Addr×Obj)) (σ:St) (Q:Bool->Hp->Prop) (b:Bool) (s':Shared):Prop:=∃H',Inv X pins σ H' s'/\Q b H'
noncomputable def AP (X:Cx) (pins:List (Addr×Obj)) (σ:St) (Q:List V->Hp->Prop) (us:List Value) (s':Shared):Prop:=∃vs H',Inv X pins σ H' s'/\Vals vs us/\Q vs H'
noncomputable def SP (X:Cx) (pins:List (Addr×Obj)) (D:Ends) (f:Flow) (s':Shared):Prop:=
 match f with
 | .next=>∃σ' H',Inv X pins σ' H' s'/\D.nx σ' H'
 | .brk=>∃σ' H',Inv X pins σ' H' s'/\D.bk σ' H'
 | .cont=>∃σ' H',Inv X pins σ' H' s'/\D.ct σ' H'
 | .ret u=>∃v σ' H',Inv X pins σ' H' s'/\RelV v u/\D.rt v H'
noncomputable def PE (X:Cx) (e:Expr) (t:TE):Prop:=
 ∀(pins:List (Addr×Obj)) (s:Shared) (σ:St) (H:Hp) (Q:VK),Inv X pins σ H s->t σ H Q->wpAny (model X.prog X.w) X.A (eval e X.env) (EP X pins σ Q) X.xe s
noncomputable def PT (X:Cx) (e:Expr) (t:TT):Prop:=
 ∀(pins:List (Addr×Obj)) (s:Shared) (σ:St) (H:Hp) (Q:Bool->Hp->Prop),Inv X pins σ H s->t σ H Q->wpAny (model X.prog X.w) X.A (isTrue e X.env (eval e X.env)) (TP X pins σ Q) X.xe s
noncomputable def PW (X:Cx) (e:Expr) (t:TT):Prop:=
 ∀(whole:Sem Value) (pins:List (Addr×Obj)) (s:Shared) (σ:St) (H:Hp) (Q:Bool->Hp->Prop),Inv X pins σ H s->t σ H Q->wpAny (model X.prog X.w) X.A (isTrue e X.env whole) (TP X pins σ Q) X.xe s
theorem PW.pt {t:TT} (h:PW X e t):PT X e t:=h _
noncomputable def PA (X:Cx) (es:List Expr) (t:TA):Prop:=
 ∀(pos:Pos) (pins:List (Addr×Obj)) (s:Shared) (σ:St) (H:Hp) (Q:List V->Hp->Prop),Inv X pins σ H s->t σ H Q->wpAny (model X.prog X.w) X.A (spliced (backTo pos (starEach es X.env))) (AP X pins σ Q) X.xe s
noncomputable def PS (X:Cx) (st:Stmt) (t:TS):Prop:=
 ∀(pins:List (Addr×Obj)) (s:Shared) (σ:St) (H:Hp) (D:Ends),Inv X pins σ H s->t D σ H->wpAny (model X.prog X.w) X.A (exec st X.env) (SP X pins D) X.xe s
noncomputable def PSs (X:Cx) (st:List Stmt) (t:TS):Prop:=
 ∀(pins:List (Addr×Obj)) (s:Shared) (σ:St) (H:Hp) (D:Ends),Inv X pins σ H s->t D σ H->wpAny (model X.prog X.w) X.A (execs st X.env) (SP X pins D) X.xe s
theorem thn {α:Type} {t:Sem α} {Q Q':α->Shared->Prop} {M:Model} (h:wpAny M A t Q E s) (hQ:∀a s,Q a s->Q' a s):wpAny M A t Q' E s:=wpAny_mono h hQ λ_ _ x=>x
section
variable {X:Cx}
theorem bin {a b:Expr} {ta tb:TE} (ha:PE X a ta) (hb:PE X b tb) {R:V->V->Hp->Prop} (I:Inv X pins σ H s) (h:ta σ H λx H1=>tb σ H1 λy H2=>R x y H2)
  {α:Type} {Q:α->Shared->Prop} {f:Value->Value->Sem α}
  (hf:∀v u s2 x y H2,Inv X pins σ H2 s2->RelV x v->RelV y u->R x y H2->wpAny (model X.prog X.w) X.A (f v u) Q X.xe s2):
  wpAny (model X.prog X.w) X.A (eval a X.env) (λv s₁=>wpAny (model X.prog X.w) X.A (eval b X.env) (λu s₂=>wpAny (model X.prog X.w) X.A (f v u) Q X.xe s₂) X.xe s₁) X.xe s:=by
 refine thn (ha pins s σ H _ I h) λv s1 ⟨x,H1,I1,r1,q1⟩=> ?_
 refine thn (hb pins s1 σ H1 _ I1 q1) λu s2 ⟨y,H2,I2,r2,q2⟩=> ?_
 exact hf v u s2 x y H2 I2 r1 r2 q2
noncomputable def tVar (i:Nat):TE:=λσ H Q=>∃v,σ[i]? =some (some v)/\Q v H
noncomputable def tC (v:V):TE:=λ_ H Q=>Q v H
theorem ZJg {pos:Pos} (hN:X.N[i]? =some x) (hv:Vis X.env.scope x) (hd:(x == ("__debug__":Str))=false:=by decide) (hcd:(x == ("__classdict__":Str))=false:=by decide):PE X (.Name x pos) (tVar i):=by
 intro pins s σ H Q I h;obtain ⟨v,e,h⟩:=h;obtain ⟨m,hn,hl⟩:=I.loc;obtain ⟨u,r,l⟩:=hl i x v hN e hv;have fin:EP X pins σ Q u s:=⟨v,H,I,r,h⟩;rcases l with ⟨hk,hm⟩ | ⟨hk,c,hc,hcell⟩
 ·exact wpAny_Name (wpAny_loadName_local I.ok.kind hk hn hm fin) hd
 ·rcases hk with hk | hk
  ·exact wpAny_Name (wpAny_loadName_cell I.ok.kind hk hc hcell fin) hd
  ·exact wpAny_Name (wpAny_loadName_free I.ok.kind hk hc hcell fin hcd) hd
theorem ZGc {i j pos}:PE X (.Constant (.int i) j pos) (tC (.int i)):=λ_ _ _ H _ I h=>wpAny_Constant_int ⟨.int i,H,I.tok _,⟨_,rfl⟩,h⟩
theorem ZEz {b j pos}:PE X (.Constant (.bool b) j pos) (tC (.bl b)):=λ_ _ _ H _ I h=>Constant_bool ⟨.bl b,H,I,rfl,h⟩
theorem ZEi {j pos}:PE X (.Constant .none j pos) (tC .non):=λ_ _ _ H _ I h=>Constant_none ⟨.non,H,I,rfl,h⟩
noncomputable def Gl (X:Cx) (x:Str):Prop:=X.env.kindOf x=some .globalImplicit
theorem Yg {E:Value->Shared->Prop} {pos:Pos} (I:Inv X pins σ H s) (hg:Gl X x) (hm:X.mg x=some u) (h:Q u s)
  (hd:(x == ("__debug__":Str))=false:=by decide):wpAny (model X.prog X.w) X.A (eval (.Name x pos) X.env) Q E s:=
 Calls.Name_function_global I.ok.kind hg (Calls.loadGlobal_global (by rw [I.ok.glob];exact I.mod.glob.keeps I.bk) hm h) hd
theorem Ij {E:Value->Shared->Prop} {pos:Pos} (I:Inv X pins σ H s) (hg:Gl X x) (hm:X.mg x=none) (hv:bootBuiltins x=some u) (h:Q u s)
  (hn:x≠"__name__":=by decide) (hd:(x == ("__debug__":Str))=false:=by decide):wpAny (model X.prog X.w) X.A (eval (.Name x pos) X.env) Q E s:=by
 obtain ⟨mb,h1,h2⟩:=I.mod.blt;exact Calls.Name_function_global I.ok.kind hg (Calls.loadGlobal_builtin (by rw [I.ok.glob];exact I.mod.glob.keeps I.bk) hm (by rw [I.ok.blt];exact h1.keeps I.bk) ((h2 x hn).trans hv) h) hd
theorem ZHh {pos:Pos} (hg:Gl X x) (hm:X.mg x=some u) (r:RelV v u) (hd:(x == ("__debug__":Str))=false:=by decide):PE X (.Name x pos) (tC v):=
 λ_ _ _ H _ I h=>Yg I hg hm ⟨v,H,I,r,h⟩ hd
theorem ZGg {pos:Pos} (hg:Gl X x) (hm:X.mg x=none) (hv:bootBuiltins x=some u) (r:RelV v u) (hn:x≠"__name__":=by decide) (hd:(x == ("__debug__":Str))=false:=by decide):PE X (.Name x pos) (tC v):=
 λ_ _ _ H _ I h=>Ij I hg hm hv ⟨v,H,I,r,h⟩ hn hd
variable {a b:Expr} {ta tb:TE} {pos:Pos}
noncomputable def PC (X:Cx) (op:CmpOp) (a b:Expr) (t:TE):Prop:=
 ∀(pins:List (Addr×Obj)) (s:Shared) (σ:St) (H:Hp) (Q:VK),Inv X pins σ H s->t σ H Q->
  wpAny (model X.prog X.w) X.A (eval a X.env) (λv s₁=>wpAny (model X.prog X.w) X.A (eval b X.env) (λu s₂=>wpAny (model X.prog X.w) X.A (compareOp op v u) (EP X pins σ Q) X.xe s₂) X.xe s₁) X.xe s
theorem nobehind (b:Expr) (h:op≠ .In) (h2:op≠ .NotIn):behindInMarks op b=false:=by
 have e1:(op == CmpOp.In)=false:=by cases op <;> first | rfl | exact absurd rfl h
 have e2:(op == CmpOp.NotIn)=false:=by cases op <;> first | rfl | exact absurd rfl h2
 cases b <;> simp [behindInMarks,e1,e2]
noncomputable def tB (t:TE):TT:=λσ H Q=>t σ H λx H1=>∃c,x=.bl c/\Q c H1
theorem pt_cmp (h:PC X op a b t) (h1:behindInMarks op b=false:=by first | exact nobehind _ (by decide) (by decide) | rfl):PT X (.Compare a [op] [b] pos) (tB t):=by intro pins s σ H Q I hw;refine wpAny_isTrue_Compare1 (thn (h pins s σ H _ I hw) λv s1 h1=>thn h1 λu s2 h2=>thn h2 λc s3 ⟨x,H1,I1,r1,q1⟩=> ?_) h1;obtain ⟨d,rfl,q⟩:=q1;cases r1;exact wpAny_truthy_bool ⟨H1,I1,q⟩
theorem ZIh (h:PE X e t) (he:∀whole,isTrue e X.env whole=(do let v<-whole;standAt e.pos;holding [v] (truthy v)):=by intro _;rfl):PT X e (tB t):=by intro pins s σ H Q I hw;refine isTrue_plain (thn (h pins s σ H _ I hw) λv s1 ⟨x,H1,I1,r1,q1⟩=> ?_) (he _);obtain ⟨d,rfl,q⟩:=q1;cases r1;exact wpAny_truthy_bool ⟨H1,I1,q⟩
variable {tA tB':TT} {rest:List Expr}
noncomputable def tAnd (t u:TT):TT:=λσ H Q=>t σ H λc H1=>if c=true then u σ H1 Q else Q false H1
noncomputable def tOr (t u:TT):TT:=λσ H Q=>t σ H λc H1=>if c=true then Q true H1 else u σ H1 Q
noncomputable def tNot (t:TT):TT:=λσ H Q=>t σ H λc H1=>Q (!c) H1
theorem pw_and1 (ha:PT X a tA):PW X (.BoolOp .And [a] pos) tA:=by
 intro wh pins s σ H Q I h;refine isTrue_and (thn (ha pins s σ H Q I h) λc s1 e=> ?_);cases c with
 | true=>exact isTrue_and_nil e
 | false=>exact e
theorem pw_or1 (ha:PT X a tA):PW X (.BoolOp .Or [a] pos) tA:=by
 intro wh pins s σ H Q I h;refine isTrue_or (thn (ha pins s σ H Q I h) λc s1 e=> ?_);cases c with
 | false=>exact isTrue_or_nil e
 | true=>exact e
theorem pw_and (ha:PT X a tA) (hb:PW X (.BoolOp .And (b::rest) pos) tB'):PW X (.BoolOp .And (a::b::rest) pos) (tAnd tA tB'):=by
 intro wh pins s σ H Q I h;refine isTrue_and (thn (ha pins s σ H _ I h) λc s1 ⟨H1,I1,q1⟩=> ?_);cases c with
 | true=>exact hb wh pins s1 σ H1 Q I1 q1
 | false=>exact ⟨H1,I1,q1⟩
theorem pw_or (ha:PT X a tA) (hb:PW X (.BoolOp .Or (b::rest) pos) tB'):PW X (.BoolOp .Or (a::b::rest) pos) (tOr tA tB'):=by
 intro wh pins s σ H Q I h;refine isTrue_or (thn (ha pins s σ H _ I h) λc s1 ⟨H1,I1,q1⟩=> ?_);cases c with
 | true=>exact ⟨H1,I1,q1⟩
 | false=>exact hb wh pins s1 σ H1 Q I1 q1
theorem ZJR (ha:PT X a tA):PT X (.UnaryOp .Not a pos) (tNot tA):=by intro pins s σ H Q I h;exact isTrue_not (ha pins s σ H (λc H1=>Q (!c) H1) I h)
noncomputable def ZFk (ta tb:TE):TE:=λσ H Q=>ta σ H λx H1=>∃c,x=.bl c/\if c=true then tb σ H1 Q else Q (.bl false) H1
noncomputable def ZKD (ta:TE):TE:=λσ H Q=>ta σ H λx H1=>∃c,x=.bl c/\Q (.bl (!c)) H1
theorem ZFd {op} (h:PE X a t):PE X (.BoolOp op [a] pos) t:=λpins s σ H Q I hw=>BoolOp_one (h pins s σ H Q I hw)
theorem ZID (ha:PE X a ta) (hb:PE X (.BoolOp .And (b::rest) pos) tb):PE X (.BoolOp .And (a::b::rest) pos) (ZFk ta tb):=by
 intro pins s σ H Q I h;refine BoolOp_and (thn (ha pins s σ H _ I h) λv s1 ⟨x,H1,I1,r1,q1⟩=> ?_);obtain ⟨c,rfl,q1⟩:=q1;cases r1;refine wpAny_truthy_bool ?_;cases c with
 | true=>exact hb pins s1 σ H1 Q I1 q1
 | false=>exact ⟨.bl false,H1,I1,rfl,q1⟩
theorem ZKi (ha:PE X a ta):PE X (.UnaryOp .Not a pos) (ZKD ta):=by intro pins s σ H Q I h;refine UnaryOp_ (thn (ha pins s σ H _ I h) λv s1 ⟨x,H1,I1,r1,q1⟩=> ?_);obtain ⟨c,rfl,q1⟩:=q1;cases r1;exact not_of (wpAny_truthy_bool ⟨.bl (!c),H1,I1,rfl,q1⟩)
noncomputable def tIf (t:TT) (ta tb:TE):TE:=λσ H Q=>t σ H λc H1=>if c=true then ta σ H1 Q else tb σ H1 Q
theorem ZKp (hc:PT X c tA) (ha:PE X a ta) (hb:PE X b tb):PE X (.IfExp c a b pos) (tIf tA ta tb):=by
 intro pins s σ H Q I h;refine wpAny_IfExp (thn (hc pins s σ H _ I h) λd s1 ⟨H1,I1,q1⟩=> ?_);cases d with
 | true=>exact ha pins s1 σ H1 Q I1 q1
 | false=>exact hb pins s1 σ H1 Q I1 q1
end
noncomputable def SqL (K:PySem.W.Frag) (H:Hp) (a:Addr) (xs:List V):Prop:=
 Rd H a (.lst xs)∨
  ∃(o:Obj) (its:Array Value) (n:Nat),K.lookup a=some o/\o.cls=.type "list"/\o.dict=none/\o.data=.seq its n/\its.size<=sizeLine/\Vals xs its.toList
noncomputable def SqT (K:PySem.W.Frag) (H:Hp) (a:Addr) (xs:List V):Prop:=
 Rd H a (.tup xs)∨
  ∃(o:Obj) (its:Array Value) (n:Nat),K.lookup a=some o/\o.cls=.type "tuple"/\o.data=.seq its n/\its.size<=sizeLine/\Vals xs its.toList
noncomputable def absV:Value->Option V
 | .none=>some .non
 | .bool b=>some (.bl b)
 | .int i _=>some (.int i)
 | .str x _=>some (.str x)
 | .bytes b _=>some (.byt b)
 | .float b _=>some (.flt b)
 | .ref a=>some (.ref a)
 | .type n=>some (.ty n)
 | _=>none
theorem RelV.abs {x:V} (r:RelV x u):absV u=some x:=by
 cases x with
 | non=>cases r;rfl
 | bl _=>cases r;rfl
 | int _=>obtain ⟨t,rfl⟩:=r;rfl
 | str _=>obtain ⟨t,rfl⟩:=r;rfl
 | byt _=>obtain ⟨t,rfl⟩:=r;rfl
 | flt _=>obtain ⟨t,rfl⟩:=r;rfl
 | ref _=>cases r;rfl
 | ty _=>cases r;rfl
theorem RelV.inj {x:V} (r:RelV x u) (q:RelV y u):x=y:=Option.some.inj (r.abs.symm.trans q.abs)
theorem Vals.inj:∀{xs ys:List V} {us:List Value},Vals xs us->Vals ys us->xs=ys
 | _,_,_,.nil,.nil=>rfl
 | _,_,_,.cons r t,.cons r' t'=>by rw [r.inj r',Vals.inj t t']
section
variable {X:Cx} {pins:List (Addr×Obj)} {σ:St} {H:Hp} {s:Shared} {a:Addr} {xs ys:List V}
theorem SqL.of (h:H a=some (.lst xs)):SqL K H a xs:=.inl (.inl h)
theorem SqT.of (h:H a=some (.tup xs)):SqT K H a xs:=.inl (.inl h)
theorem Inv.list (I:Inv X pins σ H s) (h:SqL X.K H a xs):∃its:List Value,Vals xs its/\PlainL s.heap a its.toArray/\xs.length<=sizeLine:=by
 rcases h with h | ⟨o,its,n,hk,hc,hd,hs,hz,r⟩
 ·obtain ⟨z,its,n,r,e⟩:=h.ok I.hok;exact ⟨its,r,⟨_,n,e,rfl,rfl,rfl⟩,z⟩
 ·refine ⟨its.toList,r,⟨o,n,I.kIn a o hk,hc,hd,by simpa using hs⟩,?_⟩;have e:=r.length;simp only [Array.length_toList] at e;lia
theorem Inv.tuple (I:Inv X pins σ H s) (h:SqT X.K H a xs):∃its:List Value,Vals xs its/\IsTup s.heap a its.toArray/\xs.length<=sizeLine:=by
 rcases h with h | ⟨o,its,n,hk,hc,hs,hz,r⟩
 ·obtain ⟨z,its,r,p⟩:=h.ok I.hok;exact ⟨its,r,p,z⟩
 ·refine ⟨its.toList,r,⟨o,I.kIn a o hk,hc,n,by simpa using hs⟩,?_⟩;have e:=r.length;simp only [Array.length_toList] at e;lia
theorem Inv.Xf (I:Inv X pins σ H s) (h:SqL X.K H a xs) (h':SqL X.K H a ys):xs=ys:=by
 obtain ⟨its,r,⟨o,n,e,_,_,d⟩,_⟩:=I.list h;obtain ⟨its',r',⟨o',n',e',_,_,d'⟩,_⟩:=I.list h';rw [e] at e';cases e';rw [d] at d';injection d' with d1 _
 have:its=its':=by simpa using congrArg Array.toList d1
 subst this;exact r.inj r'
theorem Inv.Xz (I:Inv X pins σ H s) (h:SqT X.K H a xs) (h':SqT X.K H a ys):xs=ys:=by
 obtain ⟨its,r,⟨o,e,_,n,d⟩,_⟩:=I.tuple h;obtain ⟨its',r',⟨o',e',_,n',d'⟩,_⟩:=I.tuple h';rw [e] at e';cases e';rw [d] at d';injection d' with d1 _
 have:its=its':=by simpa using congrArg Array.toList d1
 subst this;exact r.inj r'
end
noncomputable abbrev Cx.wish (X:Cx) (E:Value->Shared->Prop):Cx:={X with xe:=E}
noncomputable abbrev Cx.nox (X:Cx):Cx:=X.wish λ_ _=>False
theorem Cx.Ok.wish (ok:X.Ok) (E:Value->Shared->Prop):(X.wish E).Ok:=
 ⟨ok.mod,ok.kind,ok.glob,ok.blt,ok.above,ok.inj,ok.has,ok.cab,ok.hd,ok.frames,ok.stk,ok.exf,ok.bs,ok.bsz,ok.noex,ok.exfs,ok.funs,ok.frf⟩
theorem Cx.Ok.unwish (ok:(X.wish E).Ok):X.Ok:=
 ⟨ok.mod,ok.kind,ok.glob,ok.blt,ok.above,ok.inj,ok.has,ok.cab,ok.hd,ok.frames,ok.stk,ok.exf,ok.bs,ok.bsz,ok.noex,ok.exfs,ok.funs,ok.frf⟩
section
variable {X:Cx} {pins:List (Addr×Obj)} {σ:St} {H:Hp} {s:Shared} {E:Value->Shared->Prop}
theorem Inv.wish (I:Inv X pins σ H s) (E:Value->Shared->Prop):Inv (X.wish E) pins σ H s:=⟨I.ok.wish E,I.os,I.bare,I.base,I.loc,I.cell,I.free,I.Gy,I.pin,I.hok,I.len⟩
theorem Inv.unwish (I:Inv (X.wish E) pins σ H s):Inv X pins σ H s:=⟨I.ok.unwish,I.os,I.bare,I.base,I.loc,I.cell,I.free,I.Gy,I.pin,I.hok,I.len⟩
theorem SP.unwish {D:Ends} {f:Flow} {s':Shared} (h:SP (X.wish E) pins D f s'):SP X pins D f s':=by
 cases f with
 | next=>obtain ⟨σ',H',I,q⟩:=h;exact ⟨σ',H',I.unwish,q⟩
 | brk=>obtain ⟨σ',H',I,q⟩:=h;exact ⟨σ',H',I.unwish,q⟩
 | cont=>obtain ⟨σ',H',I,q⟩:=h;exact ⟨σ',H',I.unwish,q⟩
 | ret u=>obtain ⟨v,σ',H',I,r,q⟩:=h;exact ⟨v,σ',H',I.unwish,r,q⟩
theorem PSs.nox {st:List Stmt} {t:TS} (h:PSs X.nox st t):PSs X st t:=λpins s σ H D I hw=>
 wpAny_mono (h pins s σ H D (I.wish _) hw) (λ_ _ q=>q.unwish) λ_ _ z=>False.elim z
end
section
variable {X:Cx} {st:Stmt} {rest:List Stmt} {t u:TS} {e:Expr} {te:TE} {pos:Pos}
noncomputable def ZKG:TS:=λD σ H=>D.nx σ H
noncomputable def tSeq (t u:TS):TS:=λD σ H=>t {D with nx:=u D} σ H
theorem ZGL:PSs X [] ZKG:=λ_ _ σ H _ I h=>wpAny_execs_nil ⟨σ,H,I,h⟩
theorem ZD7 (h1:PS X st t) (h2:PSs X rest u):PSs X (st::rest) (tSeq t u):=by
 intro pins s σ H D I h;refine wpAny_execs_cons (thn (h1 pins s σ H {D with nx:=u D} I h) λf s1 q=> ?_);cases f with
 | next=>
  obtain ⟨σ',H',I',q⟩:=q;exact h2 pins s1 σ' H' D I' q
 | ret v=>exact q
 | brk=>exact q
 | cont=>exact q
theorem ZJD (h1:PS X st t):PSs X [st] t:=by
 intro pins s σ H D I h;refine wpAny_execs_cons (thn (h1 pins s σ H D I h) λf s1 q=> ?_);cases f with
 | next=>exact wpAny_execs_nil q
 | ret v=>exact q
 | brk=>exact q
 | cont=>exact q
theorem Inv.quiet (I:Inv X pins σ H s):interactive X.env=false:=by simp [interactive,I.ok.kind]
noncomputable def ZKQ (te:TE):TS:=λD σ H=>te σ H λ_ H1=>D.nx σ H1
theorem ZEf (he:PE X e te) (hs:swapsWith e none pos.line X.env=pure false:=by rfl):PS X (.Expr e pos) (ZKQ te):=by intro pins s σ H D I h;exact wpAny_Expr_any (thn (he pins s σ H _ I h) λv s1 ⟨x,H1,I1,r1,q1⟩=>⟨σ,H1,I1,q1⟩) I.quiet hs
noncomputable def tRet (te:TE):TS:=λD σ H=>te σ H D.rt
theorem ZIs (he:PE X e te):PS X (.Return (some e) pos) (tRet te):=by intro pins s σ H D I h;exact wpAny_Return_some (thn (he pins s σ H _ I h) λv s1 ⟨x,H1,I1,r1,q1⟩=>⟨x,σ,H1,I1,r1,q1⟩)
noncomputable def tIfS (c:TT) (t u:TS):TS:=λD σ H=>c σ H λb H1=>if b=true then t D σ H1 else u D σ H1
theorem ZIo {a b:List Stmt} {tc:TT} (hc:PT X c tc) (ha:PSs X a t) (hb:PSs X b u):PS X (.If c a b pos) (tIfS tc t u):=by
 intro pins s σ H D I h;refine wpAny_If (thn (hc pins s σ H _ I h) λd s1 ⟨H1,I1,q1⟩=> ?_);cases d with
 | true=>exact ha pins s1 σ H1 D I1 q1
 | false=>exact hb pins s1 σ H1 D I1 q1
end
noncomputable abbrev TG:=V->St->Hp->(St->Hp->Prop)->Prop
noncomputable abbrev TGs:=List V->St->Hp->(St->Hp->Prop)->Prop
noncomputable def PG (X:Cx) (target:Expr) (t:TG):Prop:=
 ∀(pins:List (Addr×Obj)) (s:Shared) (σ:St) (H:Hp) (v:V) (u:Value) (Q:St->Hp->Prop),Inv X pins σ H s->RelV v u->t v σ H Q->
  wpAny (model X.prog X.w) X.A (assign target X.env u) (λ_ s'=>∃σ' H',Inv X pins σ' H' s'/\Q σ' H') X.xe s
noncomputable def PGs (X:Cx) (ts:List Expr) (t:TGs):Prop:=
 ∀(pins:List (Addr×Obj)) (s:Shared) (σ:St) (H:Hp) (vs:List V) (us:List Value) (Q:St->Hp->Prop),Inv X pins σ H s->Vals vs us->t vs σ H Q->
  wpAny (model X.prog X.w) X.A (assignInOrder ((assignEach ts X.env).map (·.2)) us) (λ_ s'=>∃σ' H',Inv X pins σ' H' s'/\Q σ' H') X.xe s
noncomputable abbrev TSet:=V->V->V->Hp->(Hp->Prop)->Prop
noncomputable def PSet (X:Cx) (t:TSet):Prop:=
 ∀(pins:List (Addr×Obj)) (s:Shared) (σ:St) (H:Hp) (o i v:V) (ov iv u:Value) (Q:Hp->Prop),Inv X pins σ H s->RelV o ov->RelV i iv->RelV v u->t o i v H Q->
  wpAny (model X.prog X.w) X.A (setItem ov iv u) (λ_ s'=>∃H',Inv X pins σ H' s'/\Q H') X.xe s
noncomputable abbrev TIp:=V->V->Hp->VK->Prop
noncomputable def PIp (X:Cx) (op:Operator) (t:TIp):Prop:=
 ∀(pins:List (Addr×Obj)) (s:Shared) (σ:St) (H:Hp) (x y:V) (v u:Value) (Q:VK),Inv X pins σ H s->RelV x v->RelV y u->t x y H Q->
  wpAny (model X.prog X.w) X.A (inplaceOp op v u) (EP X pins σ Q) X.xe s
section
variable {X:Cx} {pos:Pos}
noncomputable def ZB4 (i:Nat):TG:=λv σ H Q=>Q (σ.set i (some v)) H
theorem ZK7 (hN:X.N.Nodup) (hi:X.N[i]? =some x) (hx:Loc X.env.scope x) (hf:X.fn x=true∨X.env.scope.names.lookup x=some .local:=by first | exact .inl rfl | exact .inr rfl | assumption):PG X (.Name x pos) (ZB4 i):=by intro pins s σ H v u Q I r h;exact wpAny_assign_Name (ZAm I hN hi hx r (λs' I'=>⟨_,H,I',h⟩) hf)
noncomputable def gNil:TGs:=λvs σ H Q=>vs= []/\Q σ H
noncomputable def ZH3 (t:TG) (u:TGs):TGs:=λvs σ H Q=>∃v r,vs=v::r/\t v σ H λσ' H'=>u r σ' H' Q
theorem ZKq:PGs X [] gNil:=by intro pins s σ H vs us Q I r h;obtain ⟨e,h⟩:=h;subst e;cases r;exact assignInOrder_nil ⟨σ,H,I,h⟩
theorem ZD3 {es:List Expr} {t:TG} {u:TGs} (h1:PG X e t) (h2:PGs X es u)
  (hs:(assignEach (e::es) X.env).map (·.2)=assign e X.env::(assignEach es X.env).map (·.2):=by rfl):PGs X (e::es) (ZH3 t u):=by
 intro pins s σ H vs us Q I r h;obtain ⟨v,vr,e1,h⟩:=h;subst e1;cases r with
 | cons r rr=>
  rw [hs];refine assignInOrder_cons (thn (h1 pins s σ H _ _ _ I r h) λ_ s1 ⟨σ1,H1,I1,q1⟩=> ?_);exact h2 pins s1 σ1 H1 _ _ Q I1 rr q1
noncomputable def gTup (K:PySem.W.Frag) (n:Nat) (t:TGs):TG:=λv σ H Q=>∃a xs,v=.ref a/\SqT K H a xs/\xs.length=n/\t xs σ H Q
theorem ZJn {es:List Expr} {k:Nat} {t:TGs} {n:Nat} (hc:X.calm=true) (h:PGs X es t)
  (hn:(assignEach es X.env).length=n:=by rfl) (hst:(assignEach es X.env).findIdx? (·.1)=none:=by rfl):PG X (.Tuple es k pos) (gTup X.K n t):=by
 intro pins s σ H v u Q I r hw;obtain ⟨a,xs,e1,hq,hl,hw⟩:=hw;subst e1;cases r;obtain ⟨its,rv,ht,hz⟩:=I.tuple hq;refine assign_Tuple_tuple (I.ok.hd hc) ht (by simp [hn,<-hl,rv.length]) hst λh' hx=> ?_
 have I1:Inv X pins σ H {s with heap:=h'}:=I.kept (t':=s.toks) λb o e=>hx b o (Nat.ne_of_lt (Heap.lt_size e)) e
 exact h pins _ σ H xs _ Q I1 (by simpa using rv) hw
noncomputable def gSub (to ti:TE) (t:TSet):TG:=λv σ H Q=>to σ H λo H1=>ti σ H1 λi H2=>t o i v H2 λH3=>Q σ H3
theorem ZIS {o i:Expr} {to ti:TE} {t:TSet} (ho:PE X o to) (hi:PE X i ti) (hs:PSet X t)
  (ha:∀v,assign (.Subscript o i pos) X.env v=(do
   let ov<-holding [v] (eval o X.env);let iv<-holding [v,ov] (eval i X.env)
   standAt pos
   holding [v,ov,iv] (setItem ov iv v)
   release [v,ov,iv] []):=by intro _;rfl):PG X (.Subscript o i pos) (gSub to ti t):=by
 intro pins s σ H v u Q I r h;rw [ha];refine wpAny_bind (wpAny_holding (thn (ho pins s σ H _ I h) λov s1 ⟨x,H1,I1,r1,q1⟩=> ?_));refine wpAny_bind (wpAny_holding (thn (hi pins s1 σ H1 _ I1 q1) λiv s2 ⟨y,H2,I2,r2,q2⟩=> ?_));refine wpAny_bind (wpAny_standAt (wpAny_bind (wpAny_holding (thn (hs pins s2 σ H2 x y v ov iv u _ I2 r1 r2 r q2) λ_ s3 ⟨H3,I3,q3⟩=> ?_))));exact wpAny_release ⟨σ,H3,I3,q3⟩
noncomputable def ZAE (te:TE) (g:TG):TS:=λD σ H=>te σ H λx H1=>g x σ H1 D.nx
theorem ZJv {g:TG} (he:PE X e te) (hg:PG X tg g) (hs:swapsWithSole [tg] e pos.line X.env=pure false:=by rfl) (hw:swappedStores [tg] e X.env=pure none:=by rfl)
  (h1:(assignEach [tg] X.env).map (·.2)= [assign tg X.env]:=by rfl):PS X (.Assign [tg] e pos) (ZAE te g):=by
 intro pins s σ H D I h;refine wpAny_Assign_stores (thn (he pins s σ H _ I h) λv s1 ⟨x,H1,I1,r1,q1⟩=> ?_) hs hw;rw [h1];exact thn (hg pins s1 σ H1 x v _ I1 r1 q1) λ_ s2 q=>q
theorem ZGC {pos':Pos} (hN:X.N.Nodup) (hi:X.N[i]? =some x) (hx:Loc X.env.scope x) (he:PE X e te) (hs:swapsWith e (some (.Name x pos')) pos.line X.env=pure false:=by rfl) (hf:X.fn x=true∨X.env.scope.names.lookup x=some .local:=by first | exact .inl rfl | exact .inr rfl | assumption):
  PS X (.Assign [.Name x pos'] e pos) (ZAE te (ZB4 i)):=by
 intro pins s σ H D I h;refine wpAny_Assign_Name (thn (he pins s σ H _ I h) λv s1 ⟨y,H1,I1,r1,q1⟩=> ?_) hs;exact ZAm I1 hN hi hx r1 (λs2 I2=>⟨_,H1,I2,q1⟩) hf
noncomputable def ipI (f:Int->Int->Int):TIp:=λx y H Q=>∃i j,x=.int i/\y=.int j/\Q (.int (f i j)) H
theorem ZGI:PIp X .Add (ipI λi j=>i + j):=by intro pins s σ H x y v u Q I r1 r2 h;obtain ⟨i,j,e1,e2,q⟩:=h;subst e1;subst e2;obtain ⟨t,rfl⟩:=r1;obtain ⟨t',rfl⟩:=r2;exact iadd_int ⟨.int _,H,I.tok _,⟨_,rfl⟩,q⟩
theorem ZGx:PIp X .Sub (ipI λi j=>i - j):=by intro pins s σ H x y v u Q I r1 r2 h;obtain ⟨i,j,e1,e2,q⟩:=h;subst e1;subst e2;obtain ⟨t,rfl⟩:=r1;obtain ⟨t',rfl⟩:=r2;exact isub_int ⟨.int _,H,I.tok _,⟨_,rfl⟩,q⟩
end
section
variable {X:Cx} {pos:Pos}
noncomputable def ZJr (c:TT) (tb:TS):TS:=λD σ H=>∃W:Nat->St->Hp->Prop,(∃m,W m σ H)/\∀m σ H,W m σ H->
 c σ H λb H1=>if b=true then∃N:St->Hp->Prop,(∀σ' H',N σ' H'->∃m',m' < m/\W m' σ' H')/\tb {D with nx:=N,ct:=N,bk:=D.nx} σ H1 else D.nx σ H1
theorem ZG1 {tc:TT} {tb:TS} (hp:PassesOwn (model X.prog X.w) X.A X.env X.xe) (hc:PT X c tc) (hb:PSs X body tb):PS X (.While c body [] pos) (ZJr tc tb):=by
 intro pins s σ H D I h;obtain ⟨W,⟨m0,w0⟩,turn⟩:=h;refine wpAny_While (codeAny_whileLoop (λn s'=>∃σ' H',Inv X pins σ' H' s'/\W n σ' H') ?_ m0 ⟨σ,H,I,w0⟩);rintro n s1 ⟨σ1,H1,I1,w1⟩;refine wpAny_passesOwn hp (thn (hc pins s1 σ1 H1 _ I1 (turn n σ1 H1 w1)) λb s2 ⟨H2,I2,q2⟩=> ?_);cases b with
 | true=>
  obtain ⟨N,hN,q2⟩:=q2;rw [if_pos rfl];refine wpAny_passesOwn hp (thn (hb pins s2 σ1 H2 _ I2 q2) λf s3 q3=> ?_);cases f with
  | next=>
   obtain ⟨σ3,H3,I3,n3⟩:=q3;obtain ⟨m',hm,w3⟩:=hN σ3 H3 n3;exact ⟨m',hm,σ3,H3,I3,w3⟩
  | cont=>
   obtain ⟨σ3,H3,I3,n3⟩:=q3;obtain ⟨m',hm,w3⟩:=hN σ3 H3 n3;exact ⟨m',hm,σ3,H3,I3,w3⟩
  | brk=>exact q3
  | ret v=>exact q3
 | false=>
  rw [if_neg Bool.false_ne_true];exact wpAny_execs_nil ⟨σ1,H2,I2,q2⟩
end
structure It where
 go:Nat->Hp->Prop
 yld:Nat->Hp->V->Hp->Prop
 stop:Nat->Hp->Prop
noncomputable def FpOk (X:Cx) (pins:List (Addr×Obj)) (H:Hp) (b:Addr):Prop:=
 H b=none/\b≠X.env.locals/\b ∉ X.fs/\(b∈X.ex∨X.s₀.heap.objs.size<=b)/\(∀x c,X.env.cells.lookup x=some c->c≠b)/\∀p∈X.pn++pins,p.1≠b
theorem Inv.Hy {H':Hp} (I:Inv X pins σ H s) (hb:s.heap.objs.size<=b) (hn:H' b=none):FpOk X pins H' b:=by
 refine ⟨hn,Nat.ne_of_gt (Nat.lt_of_lt_of_le I.lt hb),I.nofs hb,.inr (Nat.le_trans I.sz hb),λx c e z=> ?_,λp hp z=> ?_⟩
 ·obtain ⟨v,q⟩:=I.cell x c e;exact absurd (Nat.lt_of_lt_of_le q.lt (by rw [z];exact hb)) (Nat.lt_irrefl _)
 ·exact absurd (Nat.lt_of_lt_of_le (Heap.lt_size (I.pin p hp).1) (by rw [z];exact hb)) (Nat.lt_irrefl _)
structure Turn (P:Program) (w:World) (K:PySem.W.Frag) (tg:Expr) (J:It) (fp:List Addr) (it:Addr) (tn:Nat->Heap->Prop):Prop where
 mem:it∈fp
 obj:∀i h,tn i h->∀b∈fp,∃o,h.get? b=some o/\∀v,o.data≠ .cell v
 keep:∀i h h',tn i h->(∀b∈fp,∀o,h.get? b=some o->h'.get? b=some o)->tn i h'
 item:∀(X:Cx),X.prog=P->X.w=w->X.K=K->X.calm=true->∀(i:Nat) (pins:List (Addr×Obj)) (s:Shared) (σ:St) (H:Hp) (E:Value->Shared->Prop),Inv X pins σ H s->(∀b∈fp,FpOk X pins H b)->tn i s.heap->J.go i H->
  wpAny (model P w) X.A (pyNext (.ref it)) (λr s1=>∃u,r=some u/\
   wpAny (model P w) X.A (letOwnedTupleGo tg (.ref it) u) (λ_ s2=>∃x H',Inv X pins σ H' s2/\RelV x u/\J.yld i H x H'/\tn (i + 1) s2.heap/\∀b∈fp,H' b=none) E s1) E s
 done:∀(X:Cx),X.prog=P->X.w=w->X.K=K->X.calm=true->∀(i:Nat) (pins:List (Addr×Obj)) (s:Shared) (σ:St) (H:Hp) (E:Value->Shared->Prop),Inv X pins σ H s->(∀b∈fp,FpOk X pins H b)->tn i s.heap->J.stop i H->
  wpAny (model P w) X.A (pyNext (.ref it)) (λr s1=>r=none/\Inv X pins σ H s1) E s
 self:∀(A:Around) (i:Nat) (s:Shared) (Q:Value->Shared->Prop) (E:Value->Shared->Prop),tn i s.heap->Q (.ref it) s->wpAny (model P w) A (pyIter (.ref it)) Q E s
noncomputable abbrev TI:=St->Hp->(It->Hp->Prop)->Prop
noncomputable def PIE (X:Cx) (pins:List (Addr×Obj)) (σ:St) (tg:Expr) (R:It->Hp->Prop) (itv:Value) (s2:Shared):Prop:=
 ∃(it:Addr) (fp:List Addr) (tn:Nat->Heap->Prop) (J:It) (H':Hp),itv=.ref it/\Inv X pins σ H' s2/\Turn X.prog X.w X.K tg J fp it tn/\tn 0 s2.heap/\(∀b∈fp,FpOk X pins H' b)/\R J H'
noncomputable def PI (X:Cx) (tg iter:Expr) (wi:TI):Prop:=
 ∀(pins:List (Addr×Obj)) (s:Shared) (σ:St) (H:Hp) (R:It->Hp->Prop),Inv X pins σ H s->wi σ H R->
  wpAny (model X.prog X.w) X.A (eval iter X.env) (λv s1=>wpAny (model X.prog X.w) X.A (pyIter v) (PIE X pins σ tg R) X.xe s1) X.xe s
theorem Ng {M:Model} {it:Addr} {o:Obj} {n:String} {vs:Array Value} {Q:Unit->Shared->Prop} (ho:s.heap.get? it=some o) (hc:o.cls=.type n) (hd:o.data=.fields vs)
  (hn: ["enumerate","zip","dict_itemiterator","dict_reverseitemiterator","odict_iterator","itertools.zip_longest","itertools.pairwise"].contains n=false) (hQ:Q () s):wpAny M A (letOwnedTupleGo tg (.ref it) u) Q E s:=by
 unfold letOwnedTupleGo
 cases tg <;> first
  | exact wpAny_pure hQ
  | (cases u <;> first
    | exact wpAny_pure hQ
    | (
      refine wpAny_bind (wpAny_load ho ?_);rw [hc,hd];show wpAny M A (if (["enumerate","zip","dict_itemiterator","dict_reverseitemiterator","odict_iterator","itertools.zip_longest","itertools.pairwise"].contains n && vs[0]? == some (rawInt _))=true then _ else _) Q E s;rw [if_neg (by intro h;rw [hn,Bool.false_and] at h;cases h)];exact wpAny_pure hQ))
noncomputable def Itl (K:PySem.W.Frag) (a:Addr):It:=
 ⟨λi H=>∃xs x,SqL K H a xs/\xs[i]? =some x,λi H x H'=>H'=H/\∀xs,SqL K H a xs->xs[i]? =some x,λi H=>∃xs,SqL K H a xs/\xs.length<=i⟩
noncomputable def Itt (K:PySem.W.Frag) (a:Addr):It:=
 ⟨λi H=>∃xs x,SqT K H a xs/\xs[i]? =some x,λi H x H'=>H'=H/\∀xs,SqT K H a xs->xs[i]? =some x,λi H=>∃xs,SqT K H a xs/\xs.length<=i⟩
noncomputable def Itr (lo:Int) (n:Nat):It:=⟨λi _=>i < n,λi H x H'=>H'=H/\x=.int (lo + i),λi _=>n<=i⟩
theorem ZE3 (a it:Addr):Turn P w K tg (Itl K a) [it] it (λi h=>h.IsListIter it a i) where
 mem:=by simp
 obj:=λi h st b hb=>by
  have e:b=it:=by simpa using hb
  subst e;obtain ⟨o,e,c,d⟩:=st;exact ⟨o,e,λv z=>by rw [d] at z;cases z⟩
 keep:=λi h h' st k=>st.at λo e=>k it (by simp) o e
 item:=by
  intro X hP hw hK hc i pins s σ H E I hf st hg;subst hP hw hK;obtain ⟨xs,x,hq,hx⟩:=hg;obtain ⟨its,rv,p,hz⟩:=I.list hq;obtain ⟨u,hu,ru⟩:=rv.get hx;obtain ⟨f0,f1,f2,f3,f4,f5⟩:=hf it (by simp);refine wpAny_pyNext_list_item st p.isList (x:=u) (by simpa using hu) λh' st' sb=> ?_
  have I1:Inv X pins σ H {s with heap:=h'}:=I.turned (t':=s.toks) (λb o hb e=>(sb.2 b hb).trans e) f0 f1 f3 f4 f5;obtain ⟨o,e,c,d⟩:=id st';exact ⟨u,rfl,Ng (s:={s with heap:=h'}) e c d (by decide) ⟨x,H,I1,ru,⟨rfl,λys hy=>by rw [I.Xf hy hq];exact hx⟩,st',λb hb=>(hf b hb).1⟩⟩
 done:=by intro X hP hw hK hc i pins s σ H E I hf st hg;subst hP hw hK;obtain ⟨xs,hq,hx⟩:=hg;obtain ⟨its,rv,p,hz⟩:=I.list hq;obtain ⟨f0,f1,f2,f3,f4,f5⟩:=hf it (by simp);have hl:=rv.length;exact wpAny_pyNext_list_end (I.ok.hd hc) st p.isList (by simp;lia) λh' eb=>⟨rfl,I.turned (t':=s.toks) (λb o hb e=>eb b o hb e) f0 f1 f3 f4 f5⟩
 self:=λ_ _ _ _ _ st h=>wpAny_pyIter_listiter st h
theorem ZFJ (a it:Addr):Turn P w K tg (Itt K a) [it] it (λi h=>h.IsTupleIter it a i) where
 mem:=by simp
 obj:=λi h st b hb=>by
  have e:b=it:=by simpa using hb
  subst e;obtain ⟨o,e,c,d⟩:=st;exact ⟨o,e,λv z=>by rw [d] at z;cases z⟩
 keep:=λi h h' st k=>st.at λo e=>k it (by simp) o e
 item:=by
  intro X hP hw hK hc i pins s σ H E I hf st hg;subst hP hw hK;obtain ⟨xs,x,hq,hx⟩:=hg;obtain ⟨its,rv,p,hz⟩:=I.tuple hq;obtain ⟨u,hu,ru⟩:=rv.get hx;obtain ⟨f0,f1,f2,f3,f4,f5⟩:=hf it (by simp)
  refine wpAny_pyNext_tuple_item st (show s.heap.IsTuple a its.toArray from p) (x:=u) (by simpa using hu) λh' st' sb=> ?_
  have I1:Inv X pins σ H {s with heap:=h'}:=I.turned (t':=s.toks) (λb o hb e=>(sb.2 b hb).trans e) f0 f1 f3 f4 f5;obtain ⟨o,e,c,d⟩:=id st';exact ⟨u,rfl,Ng (s:={s with heap:=h'}) e c d (by decide) ⟨x,H,I1,ru,⟨rfl,λys hy=>by rw [I.Xz hy hq];exact hx⟩,st',λb hb=>(hf b hb).1⟩⟩
 done:=by
  intro X hP hw hK hc i pins s σ H E I hf st hg;subst hP hw hK;obtain ⟨xs,hq,hx⟩:=hg;obtain ⟨its,rv,p,hz⟩:=I.tuple hq;obtain ⟨f0,f1,f2,f3,f4,f5⟩:=hf it (by simp);have hl:=rv.length
  exact wpAny_pyNext_tuple_end (I.ok.hd hc) st (show s.heap.IsTuple a its.toArray from p) (by simp;lia) λh' eb=>⟨rfl,I.turned (t':=s.toks) (λb o hb e=>eb b o hb e) f0 f1 f3 f4 f5⟩
 self:=λ_ _ _ _ _ st h=>wpAny_pyIter_tupleiter st h
theorem ZI1 (it:Addr) (lo:Int) (n:Nat):Turn P w K tg (Itr lo n) [it] it (λi h=>IsRangeIter h it (lo + (i:Nat) * 1) ((n:Int) - (i:Nat)) 1) where
 mem:=by simp
 obj:=λi h st b hb=>by
  have e:b=it:=by simpa using hb
  subst e;exact ⟨_,st,λv z=>by have z':Data.fields _=Data.cell v:=z;cases z'⟩
 keep:=λi h h' st k=>k it (by simp) _ st
 item:=by
  intro X hP hw hK hc i pins s σ H E I hf st hg;subst hP hw hK;obtain ⟨f0,f1,f2,f3,f4,f5⟩:=hf it (by simp);have W:=Walks.range (prog:=X.prog) (w:=X.w) (I.ok.hd hc) it lo 1 n;refine W.item i s _ _ hg st λv h' tk hv st' kk=> ?_
  obtain ⟨t,rfl⟩:=hv;have I1:Inv X pins σ H {s with heap:=h',toks:=tk}:=I.turned (λb o hb e=>kk b o (by simpa using hb) e) f0 f1 f3 f4 f5;refine ⟨_,rfl,Ng (s:={s with heap:=h',toks:=tk}) (n:="range_iterator") st' rfl rfl (by decide) ⟨.int (lo + i),H,I1,⟨t,?_⟩,⟨rfl,rfl⟩,st',λb hb=>(hf b hb).1⟩⟩;rw [Int.mul_one]
 done:=by intro X hP hw hK hc i pins s σ H E I hf st hg;subst hP hw hK;obtain ⟨f0,f1,f2,f3,f4,f5⟩:=hf it (by simp);exact wpAny_pyNext_range_end (I.ok.hd hc) st (by have:n<=i:=hg;lia) λh' eb=>⟨rfl,I.turned (t':=s.toks) (λb o hb e=>eb b o hb e) f0 f1 f3 f4 f5⟩
 self:=λ_ _ _ _ _ st h=>wpAny_pyIter_rangeiter st h
section
variable {X:Cx} {tg:Expr}
noncomputable def ZJe (K:PySem.W.Frag) (tl:TE):TI:=λσ H R=>tl σ H λx H1=>∃a,x=.ref a/\(∃xs,SqL K H1 a xs)/\R (Itl K a) H1
noncomputable def iTup (K:PySem.W.Frag) (tl:TE):TI:=λσ H R=>tl σ H λx H1=>∃a,x=.ref a/\(∃xs,SqT K H1 a xs)/\R (Itt K a) H1
theorem Xj {l:Expr} {tl:TE} (hl:PE X l tl):PI X tg l (ZJe X.K tl):=by
 intro pins s σ H R I h;refine thn (hl pins s σ H _ I h) λv s1 ⟨x,H1,I1,r1,q1⟩=> ?_
 obtain ⟨a,e,⟨xs,hq⟩,q⟩:=q1;subst e;cases r1;obtain ⟨its,rv,p,hz⟩:=I1.list hq;refine wpAny_pyIter_list p.isList ?_;refine ⟨s1.heap.objs.size,[s1.heap.objs.size],_,_,H1,rfl,I1.kept (t':=s1.toks) λb o e=>Heap.get?_push_of_some _ e,ZE3 a _,⟨_,Heap.get?_push_size _ rfl,rfl,rfl⟩,λb hb=> ?_,q⟩;have e:b=s1.heap.objs.size:=by simpa using hb
 subst e;exact I1.Hy (Nat.le_refl _) (I1.hok.fresh (Nat.le_refl _))
theorem ZHs {l:Expr} {tl:TE} (hl:PE X l tl):PI X tg l (iTup X.K tl):=by
 intro pins s σ H R I h;refine thn (hl pins s σ H _ I h) λv s1 ⟨x,H1,I1,r1,q1⟩=> ?_
 obtain ⟨a,e,⟨xs,hq⟩,q⟩:=q1;subst e;cases r1;obtain ⟨its,rv,p,hz⟩:=I1.tuple hq
 refine wpAny_pyIter_tuple (show s1.heap.IsTuple a its.toArray from p) ?_
 refine ⟨s1.heap.objs.size,[s1.heap.objs.size],_,_,H1,rfl,I1.kept (t':=s1.toks) λb o e=>Heap.get?_push_of_some _ e,ZFJ a _,⟨_,Heap.get?_push_size _ rfl,rfl,rfl⟩,λb hb=> ?_,q⟩;have e:b=s1.heap.objs.size:=by simpa using hb
 subst e;exact I1.Hy (Nat.le_refl _) (I1.hok.fresh (Nat.le_refl _))
theorem ZLU {R:It->Hp->Prop} {lo hi:Int} {t u v:Tok} {tk:Nat} (I:Inv X pins σ H s) (h1: -(2 ^ 62)<=lo) (h2:lo < 2 ^ 62) (h3: -(2 ^ 62)<=hi) (h4:hi < 2 ^ 62)
  (q:R (Itr lo (hi - lo).toNat) H):wpAny (model X.prog X.w) X.A (pyIter (.ref s.heap.objs.size)) (PIE X pins σ tg R) E {s with heap:=s.heap.push {cls:=.type "range",data:=.fields #[.int lo t,.int hi u,.int 1 v]},toks:=tk}:=by
 refine wpAny_pyIter_range (IsRange.new ..) (small_one h1 h2 h3 h4) ?_;have I1:Inv X pins σ H {s with heap:=s.heap.push {cls:=.type "range",data:=.fields #[.int lo t,.int hi u,.int 1 v]},toks:=tk}:=I.kept λb o e=>Heap.get?_push_of_some _ e
 refine ⟨(s.heap.push {cls:=.type "range",data:=.fields #[.int lo t,.int hi u,.int 1 v]}).objs.size,[(s.heap.push {cls:=.type "range",data:=.fields #[.int lo t,.int hi u,.int 1 v]}).objs.size],_,_,H,rfl,
  I1.kept (t':=tk) λb o e=>Heap.get?_push_of_some _ e,ZI1 _ lo (hi - lo).toNat,?_,λb hb=> ?_,q⟩
 ·have e1:lo + ((0:Nat):Int) * 1=lo:=by simp
  have e2:(((hi - lo).toNat:Nat):Int) - ((0:Nat):Int)=Builtin.Range.rangeSize lo hi 1:=by rw [rangeSize_one];split <;> lia
  show IsRangeIter _ _ (lo + ((0:Nat):Int) * 1) ((((hi - lo).toNat:Nat):Int) - ((0:Nat):Int)) 1;rw [e1,e2];exact Heap.get?_push_size _ rfl
 ·have e:b=(s.heap.push {cls:=.type "range",data:=.fields #[.int lo t,.int hi u,.int 1 v]}).objs.size:=by simpa using hb
  subst e;exact I1.Hy (Nat.le_refl _) (I1.hok.fresh (Nat.le_refl _))
noncomputable def ZIg (ta:TA):TI:=λσ H R=>ta σ H λvs H1=>∃j:Int,vs= [.int j]/\ -(2 ^ 62)<=j/\j < 2 ^ 62/\R (Itr 0 j.toNat) H1
theorem ZHp {a:Expr} {ta:TA} {p pos:Pos} (hg:Gl X "range") (hm:X.mg "range"=none) (ha:PA X [a] ta) (hs:starEach [a] X.env= [(false,eval a X.env)]:=by rfl):PI X tg (.Call (.Name "range" p) [a] [] pos) (ZIg ta):=by
 intro pins s σ H R I h;refine Call_ (Ij I hg hm boot_range (PyProof.Rows.callWith_type1 (thn (ha pos pins s σ H _ I h) λus s1 ⟨vs,H1,I1,r1,q1⟩=> ?_) hs rfl));obtain ⟨j,e,q1,q2,q⟩:=q1;subst e;cases r1 with
 | cons r rr=>
  cases rr;obtain ⟨t,rfl⟩:=r;exact call_range_1 (ZLU I1 (by lia) (by lia) q1 q2 (by simpa using q))
noncomputable def tFor (wi:TI) (g:TG) (tb:TS):TS:=λD σ H=>wi σ H λJ H1=>∃W:Nat->Nat->St->Hp->Prop,(∃m,W 0 m σ H1)/\∀i m σ H,W i m σ H->
 (J.stop i H/\D.nx σ H)∨(J.go i H/\∃N:St->Hp->Prop,(∀σ' H',N σ' H'->∃m',m' < m/\W (i + 1) m' σ' H')/\∀x H',J.yld i H x H'->g x σ H' λσ2 H2=>tb {D with nx:=N,ct:=N,bk:=D.nx} σ2 H2)
noncomputable def Mr (fp:List Addr) (h:Heap):List (Addr×Obj):=fp.filterMap λb=>(h.get? b).map λo=>(b,o)
theorem Vw {o:Obj} (hb:b∈fp) (e:h.get? b=some o):(b,o)∈Mr fp h:=List.mem_filterMap.mpr ⟨b,hb,by rw [e];rfl⟩
theorem ZB3 {p:Addr×Obj} (hp:p∈Mr fp h):p.1∈fp/\h.get? p.1=some p.2:=by
 obtain ⟨b,hb,e⟩:=List.mem_filterMap.mp hp;cases q:h.get? b with
 | none=>rw [q] at e;cases e
 | some o=>
  rw [q] at e;have e':(b,o)=p:=Option.some.inj e;subst e';exact ⟨hb,q⟩
theorem Inv.pinned (I:Inv X pins σ H s) (hf:∀b∈fp,FpOk X pins H b) (ho:∀b∈fp,∃o,s.heap.get? b=some o/\∀v,o.data≠ .cell v):Inv X (pins++Mr fp s.heap) σ H s:=
 I.Gk λp hp=>(List.mem_append.mp hp).elim (λz=>I.pin p (List.mem_append_right _ z)) λz=>by obtain ⟨hb,e⟩:=ZB3 z;obtain ⟨f0,f1,f2,_⟩:=hf p.1 hb;obtain ⟨o,e',d⟩:=ho p.1 hb;rw [e] at e';cases e';exact ⟨e,f0,f1,f2,d⟩
theorem Inv.unpinned {pl:List (Addr×Obj)} (I:Inv X (pins++pl) σ H s):Inv X pins σ H s:=I.Gk λp hp=>I.pin p (List.mem_append_right _ (List.mem_append_left _ hp))
theorem ZG7 {iter:Expr} {wi:TI} {g:TG} {tb:TS} {pos:Pos} (hp:PassesOwn (model X.prog X.w) X.A X.env X.xe) (hc:X.calm=true) (hi:PI X tg iter wi) (hg:PG X tg g) (hb:PSs X body tb)
  (hs:∀x,foldedSetIterable iter X.env x=pure x:=by intro _;rfl):PS X (.For tg iter body [] pos) (tFor wi g tb):=by
 intro pins s σ H D I h;refine wpAny_For (thn (hi pins s σ H _ I h) λv s1 h1=>thn h1 λitv s2 h2=> ?_) hs;obtain ⟨it,fp,tn,J,H2,e,I2,T,st2,f2,W,⟨m0,w0⟩,turn⟩:=h2;subst e;have stat:∀{H':Hp},(∀b∈fp,H' b=none)->∀b∈fp,FpOk X pins H' b:=λhn b hb=>⟨hn b hb,(f2 b hb).2⟩
 refine codeAny_forLoop_any (λn s'=>∃i σ' H',Inv X pins σ' H' s'/\tn i s'.heap/\(∀b∈fp,H' b=none)/\W i n σ' H') ?_ m0 ⟨0,σ,H2,I2,st2,λb hb=>(f2 b hb).1,w0⟩;rintro n s3 ⟨i,σ3,H3,I3,st3,fr3,w3⟩;rcases turn i n σ3 H3 w3 with ⟨stop,qn⟩ | ⟨go,N,hN,step⟩
 ·refine wpAny_passesOwn hp (thn (T.done X rfl rfl rfl hc i pins s3 σ3 H3 X.xe I3 (stat fr3) st3 stop) λr s4 ⟨hr,I4⟩=> ?_);subst hr;exact wpAny_execs_nil ⟨σ3,H3,I4,qn⟩
 ·refine wpAny_passesOwn hp (thn (T.item X rfl rfl rfl hc i pins s3 σ3 H3 X.xe I3 (stat fr3) st3 go) λr s4 ⟨u,hr,h4⟩=> ?_);subst hr;refine wpAny_passesOwn hp (thn h4 λ_ s5 ⟨x,H5,I5,r5,y5,st5,fr5⟩=> ?_);have I5':=I5.pinned (stat fr5) (T.obj _ _ st5);refine wpAny_passesOwn hp (thn (hg _ s5 σ3 H5 x u _ I5' r5 (step x H5 y5)) λ_ s6 ⟨σ6,H6,I6,q6⟩=> ?_);refine wpAny_passesOwn hp (thn (hb _ s6 σ6 H6 _ I6 q6) λf s7 q7=> ?_)
  have again:∀{σ7:St} {H7:Hp},Inv X (pins++Mr fp s5.heap) σ7 H7 s7->N σ7 H7->∃m,m < n/\∃i σ' H',Inv X pins σ' H' s7/\tn i s7.heap/\(∀b∈fp,H' b=none)/\W i m σ' H':=λ{σ7 H7} I7 n7=>by obtain ⟨m',hm,w7⟩:=hN σ7 H7 n7;refine ⟨m',hm,i + 1,σ7,H7,I7.unpinned,T.keep _ _ _ st5 λb hb o e=>(I7.pin (b,o) (List.mem_append_right _ (List.mem_append_right _ (Vw hb e)))).1,λb hb=> ?_,w7⟩;obtain ⟨o,e,d⟩:=T.obj _ _ st5 b hb;exact (I7.pin (b,o) (List.mem_append_right _ (List.mem_append_right _ (Vw hb e)))).2.1
  cases f with
  | next=>obtain ⟨σ7,H7,I7,n7⟩:=q7;exact again I7 n7
  | cont=>obtain ⟨σ7,H7,I7,n7⟩:=q7;exact again I7 n7
  | brk=>obtain ⟨σ7,H7,I7,q7⟩:=q7;exact ⟨σ7,H7,I7.unpinned,q7⟩
  | ret v=>obtain ⟨x7,σ7,H7,I7,r7,q7⟩:=q7;exact ⟨x7,σ7,H7,I7.unpinned,r7,q7⟩
end
noncomputable abbrev R2:=V->V->Hp->VK->Prop
variable {r:R2}
noncomputable def OpR (X:Cx) (f:Value->Value->Sem Value) (r:R2):Prop:=
 ∀(pins:List (Addr×Obj)) (s:Shared) (σ:St) (H:Hp) (x y:V) (v u:Value) (Q:VK),Inv X pins σ H s->RelV x v->RelV y u->r x y H Q->
  wpAny (model X.prog X.w) X.A (f v u) (EP X pins σ Q) X.xe s
noncomputable def UnR (X:Cx) (f:Value->Sem Value) (r:V->Hp->VK->Prop):Prop:=
 ∀(pins:List (Addr×Obj)) (s:Shared) (σ:St) (H:Hp) (x:V) (v:Value) (Q:VK),Inv X pins σ H s->RelV x v->r x H Q->
  wpAny (model X.prog X.w) X.A (f v) (EP X pins σ Q) X.xe s
noncomputable def CallR (X:Cx) (f:Value) (r:List V->Hp->VK->Prop):Prop:=
 ∀(pins:List (Addr×Obj)) (s:Shared) (σ:St) (H:Hp) (xs:List V) (us:List Value) (Q:VK),Inv X pins σ H s->Vals xs us->r xs H Q->
  wpAny (model X.prog X.w) X.A (call f us) (EP X pins σ Q) X.xe s
noncomputable def tOp (r:R2) (ta tb:TE):TE:=λσ H Q=>ta σ H λx H1=>tb σ H1 λy H2=>r x y H2 Q
noncomputable def tUn (r:V->Hp->VK->Prop) (ta:TE):TE:=λσ H Q=>ta σ H λx H1=>r x H1 Q
noncomputable def rI (C:Int->Int->Prop) (g:Int->Int->V):R2:=λx y H Q=>∃i j,x=.int i/\y=.int j/\C i j/\Q (g i j) H
noncomputable def rI0 (g:Int->Int->V):R2:=λx y H Q=>∃i j,x=.int i/\y=.int j/\Q (g i j) H
noncomputable def rU (g:Int->V):V->Hp->VK->Prop:=λx H Q=>∃i,x=.int i/\Q (g i) H
section
variable {X:Cx} {a b c:Expr} {ta tb tc:TE} {pos:Pos}
theorem ZAY (ha:PE X a ta) (hb:PE X b tb) {R:V->V->Hp->Prop} (I:Inv X pins σ H s)
  (h:ta σ H λx H1=>tb σ H1 λy H2=>R x y H2) {Q:Value->Shared->Prop} {f:Value->Value->Sem Value}
  (hf:∀v u s2 x y H2,Inv X pins σ H2 s2->RelV x v->RelV y u->R x y H2->wpAny (model X.prog X.w) X.A (f v u) Q X.xe s2):
  wpAny (model X.prog X.w) X.A (eval a X.env) (λv s₁=>wpAny (model X.prog X.w) X.A (eval b X.env) (λu s₂=>wpAny (model X.prog X.w) X.A (f v u) Q X.xe s₂) X.xe s₁) X.xe s:=by
 refine thn (ha pins s σ H _ I h) λv s1 ⟨x,H1,I1,r1,q1⟩=> ?_
 refine thn (hb pins s1 σ H1 _ I1 q1) λu s2 ⟨y,H2,I2,r2,q2⟩=> ?_
 exact hf v u s2 x y H2 I2 r1 r2 q2
theorem ZKE {op:Operator} (ho:OpR X (binaryOp op) r) (ha:PE X a ta) (hb:PE X b tb):PE X (.BinOp a op b pos) (tOp r ta tb):=by intro pins s σ H Q I h;exact wpAny_BinOp (ZAY ha hb I h λv u s2 x y H2 I2 rx ry q=>ho pins s2 σ H2 x y v u Q I2 rx ry q)
theorem ZHa {op:UnaryOp} {r:V->Hp->VK->Prop} (ho:UnR X (unaryOp op) r) (ha:PE X a ta):PE X (.UnaryOp op a pos) (tUn r ta):=by intro pins s σ H Q I h;exact UnaryOp_ (thn (ha pins s σ H _ I h) λv s1 ⟨x,H1,I1,r1,q1⟩=>ho pins s1 σ H1 x v Q I1 r1 q1)
theorem opI {f:Value->Value->Sem Value} {C:Int->Int->Prop} {g:Int->Int->Int}
  (rule:∀(i j:Int) (t u:Tok) (s:Shared) (Q:Value->Shared->Prop) (E:Value->Shared->Prop),C i j->Q (.int (g i j) s.toks) {s with toks:=s.toks + 1}->wpAny (model X.prog X.w) X.A (f (.int i t) (.int j u)) Q E s):
  OpR X f (rI C λi j=>.int (g i j)):=by
 intro pins s σ H x y v u Q I rx ry h;obtain ⟨i,j,rfl,rfl,hc,q⟩:=h;obtain ⟨t,rfl⟩:=rx;obtain ⟨t',rfl⟩:=ry;exact rule i j t t' s _ _ hc ⟨.int (g i j),H,I.tok _,⟨_,rfl⟩,q⟩
theorem opI0 {f:Value->Value->Sem Value} {g:Int->Int->Int}
  (rule:∀(i j:Int) (t u:Tok) (s:Shared) (Q:Value->Shared->Prop) (E:Value->Shared->Prop),Q (.int (g i j) s.toks) {s with toks:=s.toks + 1}->wpAny (model X.prog X.w) X.A (f (.int i t) (.int j u)) Q E s):
  OpR X f (rI0 λi j=>.int (g i j)):=by
 intro pins s σ H x y v u Q I rx ry h;obtain ⟨i,j,rfl,rfl,q⟩:=h;obtain ⟨t,rfl⟩:=rx;obtain ⟨t',rfl⟩:=ry;exact rule i j t t' s _ _ ⟨.int (g i j),H,I.tok _,⟨_,rfl⟩,q⟩
theorem Xk {f:Value->Value->Sem Value} {g:Int->Int->Bool}
  (rule:∀(i j:Int) (t u:Tok) (s:Shared) (Q:Value->Shared->Prop) (E:Value->Shared->Prop),Q (.bool (g i j)) s->wpAny (model X.prog X.w) X.A (f (.int i t) (.int j u)) Q E s):
  OpR X f (rI0 λi j=>.bl (g i j)):=by
 intro pins s σ H x y v u Q I rx ry h;obtain ⟨i,j,rfl,rfl,q⟩:=h;obtain ⟨t,rfl⟩:=rx;obtain ⟨t',rfl⟩:=ry;exact rule i j t t' s _ _ ⟨.bl (g i j),H,I,rfl,q⟩
noncomputable def CPow (i j:Int):Prop:=0<=j/\j<=1000000/\i.natAbs < 2 ^ 64
noncomputable def CMul (i j:Int):Prop:=(-(2 ^ 64) < i/\i < 2 ^ 64)∨(-(2 ^ 64) < j/\j < 2 ^ 64)
theorem CMul.ok {i j:Int} (h:CMul i j):IntMulOk i j:=by
 rcases h with ⟨h1,h2⟩ | ⟨h1,h2⟩
 ·exact .of_left (intBits_le_64 h1 h2)
 ·exact .of_right (intBits_le_64 h1 h2)
theorem ZFF:OpR X (binaryOp .Add) (rI0 λi j=>.int (i + j)):=opI0 λ_ _ _ _ _ _ _ q=>add_int q
theorem ZK2:OpR X (binaryOp .Sub) (rI0 λi j=>.int (i - j)):=opI0 λ_ _ _ _ _ _ _ q=>sub_int q
theorem ZEK:OpR X (binaryOp .Mult) (rI CMul λi j=>.int (i * j)):=opI λ_ _ _ _ _ _ _ hc q=>mul_int q hc.ok
theorem ZH4:OpR X (binaryOp .Mod) (rI (λ_ j=>0 < j) λi j=>.int (i % j)):=opI λi j _ _ _ _ _ hc q=>by have h1:(0:Int) < j:=hc;exact mod_int' (by lia) (by rw [Int.fmod_eq_emod_of_nonneg i (by lia)];exact q)
theorem ZLL:OpR X (binaryOp .Pow) (rI CPow λi j=>.int (i ^ j.toNat)):=opI λ_ _ _ _ _ _ _ hc q=>pow_int_small hc.1 hc.2.1 hc.2.2 q
theorem unI {f:Value->Sem Value} {g:Int->Int}
  (rule:∀(i:Int) (t:Tok) (s:Shared) (Q:Value->Shared->Prop) (E:Value->Shared->Prop),Q (.int (g i) s.toks) {s with toks:=s.toks + 1}->wpAny (model X.prog X.w) X.A (f (.int i t)) Q E s):
  UnR X f (rU λi=>.int (g i)):=by
 intro pins s σ H x v Q I rx h;obtain ⟨i,rfl,q⟩:=h;obtain ⟨t,rfl⟩:=rx;exact rule i t s _ _ ⟨.int (g i),H,I.tok _,⟨_,rfl⟩,q⟩
theorem ZF9:UnR X (unaryOp .USub) (rU λi=>.int (-i)):=unI λ_ _ _ _ _ q=>neg_int q
end
section
variable {X:Cx} {a b c:Expr} {ta tb tc:TE} {pos:Pos}
theorem Vf {Q:VK} {k k':Bool} (I:Inv X pins σ H s) (q:Q (.bl k) H) (e:k=k'):EP X pins σ Q (.bool k') s:=by subst e;exact ⟨.bl k,H,I,rfl,q⟩
theorem ZJV:OpR X (compareOp .Lt) (rI0 λi j=>.bl (decide (i < j))):=Xk λ_ _ _ _ _ _ _ q=>lt_int q
theorem ZET:OpR X (compareOp .LtE) (rI0 λi j=>.bl (decide (i<=j))):=Xk λ_ _ _ _ _ _ _ q=>le_int q
theorem ZJa:OpR X (compareOp .Gt) (rI0 λi j=>.bl (decide (j < i))):=Xk λ_ _ _ _ _ _ _ q=>gt_int q
theorem ZK1:OpR X (compareOp .Lt) (λx y H Q=>∃i j,x=.str i/\y=.str j/\Q (.bl (decide (i.cps.toList < j.cps.toList))) H):=by intro pins s σ H x y v u Q I rx ry h;obtain ⟨i,j,rfl,rfl,q⟩:=h;obtain ⟨t,rfl⟩:=rx;obtain ⟨t',rfl⟩:=ry;exact lt_str (Vf I q rfl)
theorem ZGV:OpR X (compareOp .Is) (λx y H Q=>y=.non/\Q (.bl (decide (x=.non))) H):=by
 intro pins s σ H x y v u Q I rx ry h;obtain ⟨rfl,q⟩:=h;cases ry;refine is_none_gen (Vf I q ?_)
 cases x <;> first
  | (cases rx;rfl)
  | (obtain ⟨t,rfl⟩:=rx;rfl)
theorem ZGy:OpR X (compareOp .IsNot) (λx y H Q=>y=.non/\Q (.bl (!decide (x=.non))) H):=by
 intro pins s σ H x y v u Q I rx ry h;obtain ⟨rfl,q⟩:=h;cases ry;refine isnot_none_gen (Vf I q ?_)
 cases x <;> first
  | (cases rx;rfl)
  | (obtain ⟨t,rfl⟩:=rx;rfl)
theorem ZHo:OpR X (compareOp .NotIn) (λx y H Q=>∃i j,x=.str i/\y=.str j/\Q (.bl (!(!(Builtin.Str.occurrences j i 0 j.length 1).isEmpty))) H):=by intro pins s σ H x y v u Q I rx ry h;obtain ⟨i,j,rfl,rfl,q⟩:=h;obtain ⟨t,rfl⟩:=rx;obtain ⟨t',rfl⟩:=ry;exact notIn_str (Vf I q rfl)
theorem OpR.or {f:Value->Value->Sem Value} {r':R2} (h:OpR X f r) (h':OpR X f r'):OpR X f (λx y H Q=>r x y H Q∨r' x y H Q):=by
 intro pins s σ H x y v u Q I rx ry q;rcases q with q | q
 ·exact h pins s σ H x y v u Q I rx ry q
 ·exact h' pins s σ H x y v u Q I rx ry q
theorem nomark (b:Expr) (h:op≠ .In:=by decide) (h2:op≠ .NotIn:=by decide):behindInMarks op b=false:=by
 have e1:(op == CmpOp.In)=false:=by cases op <;> first | rfl | exact absurd rfl h
 have e2:(op == CmpOp.NotIn)=false:=by cases op <;> first | rfl | exact absurd rfl h2
 cases b <;> simp [behindInMarks,e1,e2]
theorem ZJU (ho:OpR X (compareOp op) r) (ha:PE X a ta) (hb:PE X b tb) (hm:behindInMarks op b=false):PE X (.Compare a [op] [b] pos) (tOp r ta tb):=by intro pins s σ H Q I h;exact wpAny_Compare1 (ZAY ha hb I h λv u s2 x y H2 I2 rx ry q=>ho pins s2 σ H2 x y v u Q I2 rx ry q) hm
noncomputable def O2 (t:TE):TT:=λσ H Q=>t σ H λx H'=>∃k,x=.bl k/\Q k H'
theorem ZLV (ho:OpR X (compareOp op) r) (ha:PE X a ta) (hb:PE X b tb) (hm:behindInMarks op b=false):PT X (.Compare a [op] [b] pos) (O2 (tOp r ta tb)):=by
 intro pins s σ H Q I h;refine wpAny_isTrue_Compare1 (thn (ha pins s σ H _ I h) λv s1 ⟨x,H1,I1,r1,q1⟩=>thn (hb pins s1 σ H1 _ I1 q1) λu s2 ⟨y,H2,I2,r2,q2⟩=>
  thn (ho pins s2 σ H2 x y v u _ I2 r1 r2 q2) λc s3 ⟨z,H3,I3,r3,k,e,q3⟩=> ?_) hm
 subst e;cases r3;exact wpAny_truthy_bool ⟨H3,I3,q3⟩
noncomputable def ZDV (r r':R2) (ta tb tc:TE):TE:=λσ H Q=>ta σ H λx H1=>tb σ H1 λy H2=>r x y H2 λz H3=>∃k,z=.bl k/\
 (if k=true then tc σ H3 λw' H4=>r' y w' H4 Q else Q (.bl false) H3)
theorem ZJz {op':CmpOp} {r':R2} (ho:OpR X (compareOp op) r) (ho':OpR X (compareOp op') r') (ha:PE X a ta) (hb:PE X b tb) (hc:PE X c tc)
  (hm:lastMarks [op,op'] [b,c]=false:=by with_unfolding_all rfl):PT X (.Compare a [op,op'] [b,c] pos) (O2 (ZDV r r' ta tb tc)):=by
 intro pins s σ H Q I h;refine isTrue_chain (thn (ha pins s σ H _ I h) λv s1 ⟨x,H1,I1,r1,q1⟩=>test_link (thn (hb pins s1 σ H1 _ I1 q1) λu s2 ⟨y,H2,I2,r2,q2⟩=>
  thn (ho pins s2 σ H2 x y v u _ I2 r1 r2 q2) λd s3 ⟨z,H3,I3,r3,k,e,q3⟩=> ?_)) hm
 subst e;cases r3;refine wpAny_truthy_bool ?_;cases k with
 | false=>
  obtain ⟨k',e',q'⟩:=q3;cases e';exact ite_ff ⟨H3,I3,q'⟩
 | true=>
  refine ite_tt (test_last (thn (hc pins s3 σ H3 _ I3 q3) λw' s4 ⟨z',H4,I4,r4,q4⟩=>thn (ho' pins s4 σ H4 y z' u w' _ I4 r2 r4 q4) λd' s5 ⟨z2,H5,I5,r5,k2,e2,q5⟩=> ?_));subst e2;cases r5;exact wpAny_truthy_bool ⟨H5,I5,q5⟩
theorem line63:(sizeLine:Nat) < 2 ^ 63:=by rw [sizeLine_eq];decide
theorem ZEu:OpR X (binaryOp .Add) (λx y H Q=>∃i j,x=.str i/\y=.str j/\i.length + j.length<=sizeLine/\Q (.str (i++j)) H):=by intro pins s σ H x y v u Q I rx ry h;obtain ⟨i,j,rfl,rfl,hz,q⟩:=h;obtain ⟨t,rfl⟩:=rx;obtain ⟨t',rfl⟩:=ry;exact add_str (λt' tk=>⟨.str (i++j),H,I.tok _,⟨_,rfl⟩,q⟩) hz
theorem ZFA:OpR X (inplaceOp .Add) (λx y H Q=>∃i j,x=.str i/\y=.str j/\i.length + j.length<=sizeLine/\Q (.str (i++j)) H):=by intro pins s σ H x y v u Q I rx ry h;obtain ⟨i,j,rfl,rfl,hz,q⟩:=h;obtain ⟨t,rfl⟩:=rx;obtain ⟨t',rfl⟩:=ry;exact iadd_str (λt' tk=>⟨.str (i++j),H,I.tok _,⟨_,rfl⟩,q⟩) hz
theorem vals1 {x:V} (r:Vals [x] us):∃u,us= [u]/\RelV x u:=by
 cases r with
 | cons r1 r2=>cases r2;exact ⟨_,rfl,r1⟩
theorem vals2 {x:V} (r:Vals [x,y] us):∃u w',us= [u,w']/\RelV x u/\RelV y w':=by
 cases r with
 | cons r1 r2=>
  cases r2 with
  | cons r3 r4=>cases r4;exact ⟨_,_,rfl,r1,r3⟩
theorem ZKH (hc:X.calm=true):CallR X (.builtin "max") (λxs H Q=>∃i j,xs= [.int i,.int j]/\Q (.int (if j > i then j else i)) H):=by
 intro pins s σ H xs us Q I r h;obtain ⟨i,j,rfl,q⟩:=h;obtain ⟨u,w',rfl,⟨t,rfl⟩,⟨t',rfl⟩⟩:=vals2 r;refine max_two_ints (I.ok.hd hc) λh' tk k=>⟨_,H,I.kept k,?_,q⟩
 by_cases hj:j > i
 ·rw [if_pos hj,if_pos hj];exact ⟨_,rfl⟩
 ·rw [if_neg hj,if_neg hj];exact ⟨_,rfl⟩
theorem ZJZ (hc:X.calm=true):CallR X (.builtin "min") (λxs H Q=>∃i j,xs= [.int i,.int j]/\Q (.int (if j < i then j else i)) H):=by
 intro pins s σ H xs us Q I r h;obtain ⟨i,j,rfl,q⟩:=h;obtain ⟨u,w',rfl,⟨t,rfl⟩,⟨t',rfl⟩⟩:=vals2 r;refine min_two_ints (I.ok.hd hc) λh' tk k=>⟨_,H,I.kept k,?_,q⟩
 by_cases hj:j < i
 ·rw [if_pos hj,if_pos hj];exact ⟨_,rfl⟩
 ·rw [if_neg hj,if_neg hj];exact ⟨_,rfl⟩
theorem ZLG:CallR X (.type "int") (λxs H Q=>(∃i,xs= [.int i]/\Q (.int i) H)∨∃k,xs= [.bl k]/\Q (.int (if k then 1 else 0)) H):=by
 intro pins s σ H xs us Q I r h;rcases h with ⟨i,rfl,q⟩ | ⟨k,rfl,q⟩
 ·obtain ⟨u,rfl,t,rfl⟩:=vals1 r;exact call_int_int ⟨.int i,H,I,⟨_,rfl⟩,q⟩
 ·obtain ⟨u,rfl,r1⟩:=vals1 r;cases r1;exact call_int_bool ⟨.int (if k then 1 else 0),H,I.tok _,⟨_,rfl⟩,q⟩
end
structure ObjM (h:Heap) (x dx C:Addr) (mA:Str->Option Value):Prop where
 obj:h.get? x=some (PySem.W.instObj C dx)
 ns:h.Ns1 dx mA
 ne:dx≠x
theorem ZGh {dx:Addr} {mA:Str->Option Value} (n:h.Ns1 dx mA):∃od,h.get? dx=some od/\∀name,PySem.W.lookIn name od=some (mA name):=by
 obtain ⟨o,es,ep,ho,hd,hk,_,hm⟩:=n;refine ⟨o,ho,λname=> ?_⟩;have e:=hm name;unfold nsFind findBy at e;rw [<-Array.find?_toList] at e;unfold PySem.W.lookIn;rw [hd];dsimp only;split
 ·rename_i y q;rw [q] at e;exact congrArg some e
 ·rename_i q;rw [q] at e
  have a:es.toList.any (·.refKey)=false:=by rw [List.any_eq_false];intro y hy;obtain ⟨z,t,hkey⟩:=hk y (Array.mem_toList_iff.mp hy);simp [DictEntry.refKey,hkey]
  have a':¬es.toList.any (·.refKey)=true:=by rw [a];exact Bool.false_ne_true
  rw [if_neg a'];exact congrArg some e
theorem ObjM.look {x dx:Addr} {mA:Str->Option Value} (I:ObjM h x dx C mA):∃od,PySem.W.InstAt h x (PySem.W.instObj C dx) C (some od)/\∀name,PySem.W.lookIn name od=some (mA name):=
 let ⟨od,ho,hl⟩:=ZGh I.ns
 ⟨od,⟨I.obj,rfl,rfl,ho⟩,hl⟩
section
variable {prog:Program} {w:World} {A:Around} {E:Value->Shared->Prop} {s:Shared} {K:PySem.W.Frag} {x dx C f:Addr} {mA:Str->Option Value} {name:Str} {v:Value}
theorem ZJ6 {expr:Bool} (X:K.In s.heap) (I:ObjM s.heap x dx C mA) (hg:PySem.W.plainGet K C name=true) (hh:PySem.W.hasDictIn K C=true)
  (ha:PySem.W.findIn K (.ref C) name=some none) (hv:mA name=some v) (hv':PySem.W.handedIn v=true) (h:Q v {s with toks:=s.toks + 1}):
  wpAny (model prog w) A (getAttr (.ref x) name expr) Q E s:=by
 obtain ⟨od,J,hl⟩:=I.look;exact PySem.W.get_value X J (PySem.W.plainGet_of hg).1 (PySem.W.findObj_own hh ha rfl (by rw [hl,hv])) hv' h
theorem ZHx {Q:Value×List Value->Shared->Prop} (X:K.In s.heap) (I:ObjM s.heap x dx C mA) (hg:PySem.W.plainGet K C name=true)
  (hf:PySem.W.findIn K (.ref C) name=some (some (.ref f))) (ht:PySem.W.isFn K (.ref f)=true) (hv:mA name=none) (h:Q (.ref f,[.ref x]) s):
  wpAny (model prog w) A (getMethod (.ref x) name pl) Q E s:=by
 obtain ⟨od,J,hl⟩:=I.look
 exact PySem.W.method_fn X J (PySem.W.plainGet_of hg).1 (PySem.W.plainGet_of hg).2 hf (beq_iff_eq.mp ht) (by show (PySem.W.lookIn name od).map (·.isSome)=some false;rw [hl,hv];rfl) h
theorem ZHc {ns:List Str} {Q:Unit->Shared->Prop} (X:K.In s.heap) (I:ObjM s.heap x dx C mA)
  (hs:PySem.W.findIn K (.ref C) "__setattr__"=some (some (.builtin "object.__setattr__"))) (hp:PySem.W.plainOver K C=true) (ht:PySem.W.takerIn K C name=some none) (hh:PySem.W.hasDictIn K C=true)
  (hw:PySem.Within mA ns) (hsz:ns.length<=sizeLine)
  (h:∀h',ObjM h' x dx C (λy=>if y=name then some v else mA y)->Heap.SameBut dx s.heap h'->Q () {s with heap:=h',toks:=s.toks + 2}):
  wpAny (model prog w) A (setAttr (.ref x) name v) Q E s:=by
 obtain ⟨od,J,hl⟩:=I.look;refine PySem.W.set_plain X J hs (PySem.W.osa_open (s:={s with toks:=s.toks + 1}) (r:=none) X J hp ht λb=> ?_);obtain ⟨cd,hc,hd'⟩:=PySem.W.any_some hh;have hx:s.heap.get? x=some ⟨.ref C,some dx,.plain,#[]⟩:=I.obj;refine wpAny_bind (wpAny_pure (wpAny_bind (wpAny_bind (wpAny_loadPart hx (wpAny_bind (PySem.W.Looks.here (s:={s with toks:=s.toks + 1}) (PySem.W.looks_clsIn X hc) ?_))))))
 rw [hd'];refine wpAny_pure (a:=some dx) (wpAny_bind (wpAny_pure (wpAny_bind ?_)));refine wpAny_nsSet1 (s:={s with toks:=s.toks + 1}) I.ns λh' hn2 hs2=> ?_
 obtain ⟨oD,esD,epD,hoD,hdD,hcD⟩:=hn2.count (PySem.Within.cons name v hw);refine wpAny_bind (wpAny_lookBehind hoD (by rw [hdD];exact pastItsLine_dict (Nat.le_trans hcD (by rw [List.length_cons];lia))) ?_);exact wpAny_pure (h _ ⟨(hs2.2 _ (Ne.symm I.ne)).trans I.obj,hn2,I.ne⟩ hs2)
theorem ZKJ {R:Result->Shared->Prop} {vs:List Value} (X:K.In s.heap) (hm:PySem.W.makesIn K C=true)
  (hi:PySem.W.findIn K (.ref C) "__init__"=some (some (.ref f))) (hf:PySem.W.typeIn K (.ref f)=some (.type "function"))
  (h:codeAny (model prog w) (A.under (.builtin "type.__call__" ⟨.ref C::vs,kw⟩)) (.call (.ref f) ⟨.ref (s.heap.objs.size + 1)::vs,kw⟩) (PySem.W.InitBack (s.heap.objs.size + 1) R)
   {s with heap:=(s.heap.push PySem.W.emptyDict).push (PySem.W.instObj C s.heap.objs.size)}):
  codeAny (model prog w) A (.call (.ref C) ⟨vs,kw⟩) R s:=by
 obtain ⟨hh,g,d,t,os⟩:=s;exact PySem.W.make_core (PySem.W.makes_of X hm) (PySem.W.looks_findIn X hi) (λself=>PySem.W.bind_fn X self hf) (.inl rfl) h
end
noncomputable def Dq (f:Str) (v:V):List (Str×V)->List (Str×V)
 | []=> [(f,v)]
 | (g,x)::r=>if g=f then (g,v)::r else (g,x)::Dq f v r
theorem ZC6 (f g:Str) (v:V):∀fs:List (Str×V),(Dq f v fs).lookup g=if g=f then some v else fs.lookup g
 | []=>by
  show List.lookup g [(f,v)]=_;by_cases h:g=f
  ·have hb:(g == f)=true:=beq_iff_eq.mpr h;simp only [List.lookup,hb,if_pos h]
  ·have hb:(g == f)=false:=beq_eq_false_iff_ne.mpr h;simp only [List.lookup,hb,if_neg h]
 | (k,x)::r=>by
  have ih:=ZC6 f g v r
  rw [show Dq f v ((k,x)::r)=(if k=f then (k,v)::r else (k,x)::Dq f v r) from rfl]
  by_cases hk:k=f
  ·rw [if_pos hk];by_cases h:g=k
   ·have hb:(g == k)=true:=beq_iff_eq.mpr h;simp only [List.lookup,hb,if_pos (h.trans hk)]
   ·have hb:(g == k)=false:=beq_eq_false_iff_ne.mpr h;simp only [List.lookup,hb,if_neg (λe:g=f=>h (e.trans hk.symm))]
  ·rw [if_neg hk];by_cases h:g=k
   ·have hb:(g == k)=true:=beq_iff_eq.mpr h;simp only [List.lookup,hb,if_neg (λe:g=f=>hk (h.symm.trans e))]
   ·have hb:(g == k)=false:=beq_eq_false_iff_ne.mpr h;simp only [List.lookup,hb];exact ih
theorem Z7 (f:Str) (v:V):∀fs:List (Str×V),f∈(Dq f v fs).map (·.1)/\∀g,g∈fs.map (·.1)->g∈(Dq f v fs).map (·.1)
 | []=>⟨by simp [Dq],λg h=>by simp at h⟩
 | (k,x)::r=>by
  obtain ⟨i1,i2⟩:=Z7 f v r
  rw [show Dq f v ((k,x)::r)=(if k=f then (k,v)::r else (k,x)::Dq f v r) from rfl]
  by_cases hk:k=f
  ·rw [if_pos hk];subst hk;exact ⟨by simp,λg h=>by simpa using h⟩
  ·rw [if_neg hk];refine ⟨?_,λg h=> ?_⟩
   ·rw [List.map_cons];exact List.mem_cons_of_mem _ i1
   ·rw [List.map_cons] at h ⊢;rcases List.mem_cons.mp h with e | e
    ·exact List.mem_cons.mpr (.inl e)
    ·exact List.mem_cons_of_mem _ (i2 g e)
theorem ZDo (f:Str) (v:V):∀fs:List (Str×V),(Dq f v fs).length<=fs.length + 1
 | []=>by simp [Dq]
 | (k,x)::r=>by
  have ih:=ZDo f v r
  rw [show Dq f v ((k,x)::r)=(if k=f then (k,v)::r else (k,x)::Dq f v r) from rfl]
  by_cases hk:k=f
  ·rw [if_pos hk,List.length_cons,List.length_cons];lia
  ·rw [if_neg hk,List.length_cons,List.length_cons];lia
theorem RelO.some_of {o:Option Value} (r:RelO (some v) o):∃u,o=some u/\RelV v u:=by
 cases o with
 | none=>exact (show False from r).elim
 | some u=>exact ⟨u,rfl,r⟩
theorem RelO.none_of {o:Option Value} (r:RelO none o):o=none:=by
 cases o with
 | none=>rfl
 | some u=>exact (show False from r).elim
theorem ZEg (r:RelV v u):PySem.W.handedIn u=true:=by
 cases v with
 | non=>cases (show u=Value.none from r);rfl
 | bl b=>cases (show u=Value.bool b from r);rfl
 | int i=>obtain ⟨t,e⟩:=(show∃t,u=Value.int i t from r);cases e;rfl
 | str x=>obtain ⟨t,e⟩:=(show∃t,u=Value.str x t from r);cases e;rfl
 | byt b=>obtain ⟨t,e⟩:=(show∃t,u=Value.bytes b t from r);cases e;rfl
 | flt b=>obtain ⟨t,e⟩:=(show∃t,u=Value.float b t from r);cases e;rfl
 | ref a=>cases (show u=Value.ref a from r);rfl
 | ty n=>cases (show u=Value.type n from r);rfl
section
variable {P:Program} {w:World} {H H':Hp} {h h':Heap} {a C dx:Addr} {fs fs':List (Str×V)}
theorem Xl (hok:HOk P w H h) (e:H a=some (.ins C dx fs)):∃mA,ObjM h a dx C mA/\(∀f,RelO (fs.lookup f) (mA f))/\PySem.Within mA (fs.map (·.1))/\fs.length<=1000/\H dx=some (.own a):=by
 obtain ⟨d,z,ne,ob,mA,n,r,q⟩:=(show ObjOk P w H h a (.ins C dx fs) from hok a _ e)
 exact ⟨mA,⟨ob,n,ne⟩,r,q,z,d⟩
end
structure Cls (K:PySem.W.Frag) (C:Addr):Prop where
 pg:PySem.W.plainGet K C Str.empty=true
 hd:PySem.W.hasDictIn K C=true
 po:PySem.W.plainOver K C=true
 sa:PySem.W.findIn K (.ref C) "__setattr__"=some (some (.builtin "object.__setattr__"))
theorem Cls.get (c:Cls K C) (f:Str):PySem.W.plainGet K C f=true:=c.pg
noncomputable def NoAttr (K:PySem.W.Frag) (C:Addr) (f:Str):Prop:=PySem.W.findIn K (.ref C) f=some none
theorem NoAttr.taker {f:Str} (n:NoAttr K C f):PySem.W.takerIn K C f=some none:=by
 unfold PySem.W.takerIn
 rw [show PySem.W.findIn K (.ref C) f=some none from n]
 rfl
structure Meth (K:PySem.W.Frag) (C:Addr) (m:Str) (f:Addr):Prop where
 at_:PySem.W.findIn K (.ref C) m=some (some (.ref f))
 fn:PySem.W.isFn K (.ref f)=true
 kp:PySem.W.keepIn K (.ref f)=true
section
variable {X:Cx} {pins:List (Addr×Obj)} {σ:St} {H:Hp} {s:Shared} {a C dx:Addr} {fs:List (Str×V)} {f:Str} {v:V} {A:Around} {E:Value->Shared->Prop}
theorem ZG8 {b:Bool} (I:Inv X pins σ H s) (e:H a=some (.ins C dx fs)) (c:Cls X.K C) (n:NoAttr X.K C f) (l:fs.lookup f=some v)
  (h:∀u s',Inv X pins σ H s'->RelV v u->Q u s'):wpAny (model X.prog X.w) A (getAttr (.ref a) f b) Q E s:=by
 obtain ⟨mA,O,r,_,_,_⟩:=Xl I.hok e;obtain ⟨u,hu,ru⟩:=RelO.some_of (v:=v) (o:=mA f) (by rw [<-l];exact r f);exact ZJ6 I.kIn O (c.get f) c.hd n hu (ZEg ru) (h u _ (I.tok _) ru)
theorem Wt {m:Str} {g:Addr} {Q:Value×List Value->Shared->Prop} (I:Inv X pins σ H s) (e:H a=some (.ins C dx fs)) (c:Cls X.K C) (k:Meth X.K C m g) (l:fs.lookup m=none)
  (h:Q (.ref g,[.ref a]) s):wpAny (model X.prog X.w) A (getMethod (.ref a) m pl) Q E s:=by
 obtain ⟨mA,O,r,_,_,_⟩:=Xl I.hok e;have hn:mA m=none:=RelO.none_of (by rw [<-l];exact r m);exact ZHx I.kIn O (c.get m) k.at_ k.fn hn h
theorem ZHN {Q:Unit->Shared->Prop} (I:Inv X pins σ H s) (e:H a=some (.ins C dx fs)) (c:Cls X.K C) (n:NoAttr X.K C f) (hl:fs.length < 1000) (ry:RelV y u)
  (h:∀s',Inv X pins σ (upd H a (.ins C dx (Dq f y fs))) s'->Q () s'):wpAny (model X.prog X.w) A (setAttr (.ref a) f u) Q E s:=by
 obtain ⟨mA,O,r,wi,_,ho⟩:=Xl I.hok e
 have hz:(fs.map (·.1)).length<=sizeLine:=by rw [List.length_map,sizeLine_eq];lia
 refine ZHc I.kIn O c.sa c.po n.taker c.hd wi hz λh' O' sb=>h _ ?_
 have hd:∃o,h'.get? dx=some o:=let ⟨o,_,_,e',_⟩:=O'.ns;⟨o,e'⟩;refine I.write (x:=a) (e:=dx) (by rw [e];exact True.intro) (.inr ho) (λb q hb z=>(sb.2 b hb).trans z) hd ?_;refine ⟨by rw [Ao O.ne];exact ho,?_,O.ne,O'.obj,_,O'.ns,λg=> ?_,λg hg=> ?_⟩
 ·have:=ZDo f y fs;lia
 ·show RelO ((Dq f y fs).lookup g) (if g=f then some u else mA g);rw [ZC6];by_cases q:g=f
  ·rw [if_pos q,if_pos q];exact ry
  ·rw [if_neg q,if_neg q];exact r g
 ·by_cases q:g=f
  ·rw [q];exact (Z7 f y fs).1
  ·refine (Z7 f y fs).2 g (wi g λz=>hg ?_);show (if g=f then some u else mA g)=none;rw [if_neg q];exact z
theorem Inv.made (I:Inv X pins σ H s):Inv X pins σ (upd (upd H s.heap.objs.size (.own (s.heap.objs.size + 1))) (s.heap.objs.size + 1) (.ins C s.heap.objs.size []))
  {s with heap:=(s.heap.push PySem.W.emptyDict).push (PySem.W.instObj C s.heap.objs.size)}:=by
 have e1:(s.heap.push PySem.W.emptyDict).get? s.heap.objs.size=some PySem.W.emptyDict:=Heap.get?_push_size s.heap rfl;have e2:((s.heap.push PySem.W.emptyDict).push (PySem.W.instObj C s.heap.objs.size)).get? (s.heap.objs.size + 1)=some (PySem.W.instObj C s.heap.objs.size):=by have:=Heap.get?_push_size (s.heap.push PySem.W.emptyDict) (o:=PySem.W.instObj C s.heap.objs.size) rfl;rwa [Heap.size_push] at this
 have e3:(s.heap.push PySem.W.emptyDict).Ns s.heap.objs.size (λ_=>none):=⟨PySem.W.emptyDict,#[],_,e1,rfl,(λe he=>absurd he (by simp)),λ_=>rfl⟩;have I1:=I.laid (a:=s.heap.objs.size) (o:=.own (s.heap.objs.size + 1)) (h':=s.heap.push PySem.W.emptyDict) (t':=s.toks) (λb u q=>Heap.get?_push_of_some _ q) (Nat.le_refl _) ⟨_,e1⟩;refine I1.laid (a:=s.heap.objs.size + 1) (o:=.ins C s.heap.objs.size []) (t':=s.toks) (λb u q=>Heap.get?_push_of_some _ q) (Nat.le_of_eq (Heap.size_push _ _)) ?_
 have ne:s.heap.objs.size≠s.heap.objs.size + 1:=Nat.ne_of_lt (Nat.lt_succ_self _);refine ⟨by rw [Ao ne,Dt],Nat.zero_le _,ne,e2,λ_=>none,(Heap.Ns1.of_empty e3).at λo q=>Heap.get?_push_of_some _ q,λ_=>True.intro,λy hy=>absurd rfl hy⟩
theorem ZF8 {prog:Program} {env:Env} {f:Str} {pos:Pos} (hb:attributeBase e f env (eval e env)=eval e env)
  (h:wpAny (model prog w) A (eval e env) (λo s₁=>wpAny (model prog w) A (getAttr o f true) Q E s₁) E s):wpAny (model prog w) A (eval (.Attribute e f pos) env) Q E s:=
 Attribute_any_ h (by rw [arm_eval_Attribute,hb])
end
noncomputable def tFld (K:PySem.W.Frag) (ta:TE) (f:Str):TE:=λσ H Q=>ta σ H λx H1=>∃a C dx fs v,x=.ref a/\H1 a=some (.ins C dx fs)/\Cls K C/\NoAttr K C f/\fs.lookup f=some v/\Q v H1
noncomputable def sFld (K:PySem.W.Frag) (ta tv:TE) (f:Str):TS:=λD σ H=>tv σ H λy H1=>ta σ H1 λx H2=>∃a C dx fs,x=.ref a/\H2 a=some (.ins C dx fs)/\Cls K C/\NoAttr K C f/\fs.length < 1000/\
 D.nx σ (upd H2 a (.ins C dx (Dq f y fs)))
section
variable {X:Cx} {o e value:Expr} {f:Str} {pos pos' tpos:Pos} {ta tv:TE}
theorem ZFp (he:PE X e ta) (hb:attributeBase e f X.env (eval e X.env)=eval e X.env):PE X (.Attribute e f pos) (tFld X.K ta f):=by intro pins s σ H Q I h;refine ZF8 hb (thn (he pins s σ H _ I h) λu s1 ⟨x,H1,I1,rx,a,C,dx,fs,v,ex,ea,c,n,l,q⟩=> ?_);subst ex;obtain rfl:u=Value.ref a:=rx;exact ZG8 I1 ea c n l λu' s2 I2 ru=>⟨v,H1,I2,ru,q⟩
theorem ZK9 (ha:PE X o ta) (hv:PE X value tv) (hs:swapsWith value (some (.Attribute o f pos')) pos.line X.env=pure false):PS X (.Assign [.Attribute o f pos'] value pos) (sFld X.K ta tv f):=by intro pins s σ H D I h;refine plainObj_wpAny_Assign_Attribute (thn (hv pins s σ H _ I h) λu s1 ⟨y,H1,I1,ry,q⟩=>thn (ha pins s1 σ H1 _ I1 q) λov s2 ⟨x,H2,I2,rx,a,C,dx,fs,ex,ea,c,n,l,q2⟩=> ?_) hs;subst ex;obtain rfl:ov=Value.ref a:=rx;exact ZHN I2 ea c n l ry λs3 I3=>⟨σ,_,I3,q2⟩
theorem ZND {m:Str} {apos:Pos} {args:List Expr} (he:PE X e te) (I:Inv X pins σ H s)
  (h:te σ H λx H1=>∃a C dx fs g,x=.ref a/\H1 a=some (.ins C dx fs)/\Cls X.K C/\Meth X.K C m g/\fs.lookup m=none/\
   ∀s1,Inv X pins σ H1 s1->wpAny (model X.prog X.w) X.A (callWith pos (.ref g) [.ref a] (backTo pos (starEach args X.env)) (backToKw pos (keywordEach [] X.env))) Q X.xe s1)
  (ht:eval (.Call (.Attribute e m apos) args [] pos) X.env=(do
   let ov<-eval e X.env
   standAt apos.atName
   let (f,first)<-holding [ov] (getMethod ov m pl)
   callWith pos f first (backTo pos (starEach args X.env)) (backToKw pos (keywordEach [] X.env)))):
  wpAny (model X.prog X.w) X.A (eval (.Call (.Attribute e m apos) args [] pos) X.env) Q X.xe s:=by
 refine PySem.W.methodCall_KW (pl:=pl) (thn (he pins s σ H _ I h) λu s1 ⟨x,H1,I1,rx,a,C,dx,fs,g,ex,ea,c,k,l,q⟩=> ?_) ht;subst ex;obtain rfl:u=Value.ref a:=rx;exact Wt I1 ea c k l (q s1 I1)
end
section
variable {X:Cx} {pins:List (Addr×Obj)} {σ:St} {H:Hp} {s:Shared} {A:Around} {E:Value->Shared->Prop} {Q:Value->Shared->Prop} {c:Value} {b:Bool}
end
structure Room (k:Nat) (A:Around):Prop where
 hd:A.handled=none
 dp:A.depth + 3 * k + 5 < recursionLimit
 un:A.units + 16 * k + 200 < cLine
theorem Room.mono {j:Nat} (r:Room k A) (h:j<=k):Room j A:=⟨r.hd,by have:=r.dp;lia,by have:=r.un;lia⟩
theorem Room.deeper (r:Room (k + 1) A) (env:Env):Room k (A.deeper env):=
 ⟨r.hd,by have:=r.dp;show A.depth + 1 + 3 * k + 5 < _;lia,by have:=r.un;show A.units + 3 + 16 * k + 200 < _;lia⟩
theorem Room.in1 (r:Room (k + 1) A):Room k A.in1:=
 ⟨r.hd,by have:=r.dp;show A.depth + 3 * k + 5 < _;lia,by have:=r.un;show A.units + 1 + 16 * k + 200 < _;lia⟩
theorem ZHn:(A.under (.builtin "type.__call__" ⟨.ref C::us,kw⟩)).depth=A.depth + 1:=by
 first | rfl | simp [Around.under,Code.weight,Code.isCreation,Code.isGuard,Code.isCaller,Code.frames,Code.isFrame,guardIds]
theorem ZH9:(A.under (.builtin "type.__call__" ⟨.ref C::us,kw⟩)).units=A.units + 1:=by
 first | rfl | simp [Around.under,Code.cUnits,Code.frames,Code.isFrame]
theorem Room.make (r:Room (k + 1) A) (C:Addr) (us:List Value) (kw:List (Str×Value)):Room k (A.under (.builtin "type.__call__" ⟨.ref C::us,kw⟩)):=
 ⟨r.hd,by have:=r.dp;rw [ZHn];lia,by have:=r.un;rw [ZH9];lia⟩
theorem Room.depth (r:Room k A):A.depth < recursionLimit:=by have:=r.dp;lia
theorem Room.units (r:Room k A):A.units + 64 < cLine:=by have:=r.un;lia
noncomputable def tNil:TA:=λ_ H Q=>Q [] H
noncomputable def ZLN (ta:TE) (tr:TA):TA:=λσ H Q=>ta σ H λx H1=>tr σ H1 λxs H2=>Q (x::xs) H2
section
variable {X:Cx} {e:Expr} {es:List Expr} {te:TE} {t:TA} {pos:Pos}
theorem ZJ3:PA X [] tNil:=λ_ _ _ _ H Q I h=>Calls.spliced_nil ⟨[],H,I,.nil,h⟩
theorem ZJ7 (ha:PE X e te) (hr:PA X es t) (hs:starEach (e::es) X.env=(false,eval e X.env)::starEach es X.env:=by rfl):PA X (e::es) (ZLN te t):=by intro pos pins s σ H Q I h;rw [hs];show wpAny _ _ (spliced ((false,eval e X.env)::backTo pos (starEach es X.env))) _ _ s;refine Calls.spliced_cons (thn (ha pins s σ H _ I h) λu s1 ⟨x,H1,I1,r1,q1⟩=> ?_);exact thn (hr pos pins s1 σ H1 _ I1 q1) λus s2 ⟨xs,H2,I2,r2,q2⟩=>⟨x::xs,H2,I2,.cons r1 r2,q2⟩
noncomputable def tTup (t:TA):TE:=λσ H Q=>t σ H λxs H1=>xs.length<=sizeLine/\∀p,H1 p=none->Q (.ref p) (upd H1 p (.tup xs))
noncomputable def tLst (t:TA):TE:=λσ H Q=>t σ H λxs H1=>xs.length<=sizeLine/\∀p,H1 p=none->Q (.ref p) (upd H1 p (.lst xs))
theorem ZKP {x1} (h:PA X es t):PE X (.Tuple es x1 pos) (tTup t):=by intro pins s σ H Q I hq;refine wpAny_Tuple_spliced (thn (h pos pins s σ H _ I hq) λus s1 ⟨xs,H1,I1,r,z,q⟩=>⟨by rw [<-r.length];exact z,?_⟩);have hf:H1 s1.heap.objs.size=none:=I1.hok.fresh (Nat.le_refl _);refine ⟨.ref s1.heap.objs.size,upd H1 s1.heap.objs.size (.tup xs),I1.laid (t':=s1.toks) (λb u e=>Heap.get?_push_of_some _ e) (Nat.le_refl _) ?_,rfl,q _ hf⟩;exact ⟨z,us,r,⟨_,Heap.get?_push_size _ rfl,rfl,_,rfl⟩⟩
theorem ZIN (h:PA X es t):PE X (.List es pos) (tLst t):=by intro pins s σ H Q I hq;refine wpAny_List_spliced (thn (h pos pins s σ H _ I hq) λus s1 ⟨xs,H1,I1,r,z,q⟩=>⟨by rw [<-r.length];exact z,?_⟩);have hf:H1 s1.heap.objs.size=none:=I1.hok.fresh (Nat.le_refl _);refine ⟨.ref s1.heap.objs.size,upd H1 s1.heap.objs.size (.lst xs),I1.laid (t':=s1.toks) (λb u e=>Heap.get?_push_of_some _ e) (Nat.le_refl _) ?_,rfl,q _ hf⟩;exact ⟨z,us,0,r,Heap.get?_push_size _ rfl⟩
end
noncomputable abbrev Sp:=List V->Hp->VK->XK->Prop
noncomputable abbrev CXT:=List Env->Hp->Shared->XK->Value->Shared->Prop
structure Env0 (P:Program) (w:World) (K:PySem.W.Frag) (mg:Str->Option Value) (base:Heap) (A:Around) (outer:List Env) (s:Shared) (H:Hp):Prop where
 frames:A.frames=some outer
 mod:Mod K mg base
 bs:∀b o,base.get? b=some o->s.heap.get? b=some o/\H b=none
 bsz:base.objs.size<=s.heap.objs.size
 funs:s.heap.FunFrames base outer
 frf:∀b∈frs outer,H b=none
 hok:HOk P w H s.heap
 bare:AllBare s.gens
noncomputable def CE (outer:List Env) (P:Program) (w:World) (H:Hp) (s:Shared) (Q:VK) (u:Value) (s':Shared):Prop:=
 ∃v H',s'.os=s.os/\AllBare s'.gens/\Un (frs outer) [] H H' s.heap s'.heap/\HOk P w H' s'.heap/\RelV v u/\Q v H'
noncomputable def CR (CX:CXT) (outer:List Env) (P:Program) (w:World) (H:Hp) (s:Shared) (Q:VK) (E:XK) (r:Result) (s':Shared):Prop:=
 match r with
 | .ok (.ret u)=>CE outer P w H s Q u s'
 | .ok _=>False
 | .error e=>CX outer H s E e s'
structure FnOk (P:Program) (w:World) (K:PySem.W.Frag) (mg:Str->Option Value) (base:Heap) (CX:CXT) (k:Nat) (f:Addr) (fd:FuncData) (ps:List Str) (sp:Sp):Prop where
 len:∀vs H Q E,sp vs H Q E->vs.length=ps.length
 run:∀(A:Around) (outer:List Env) (s:Shared) (H:Hp) (args:Args) (us:List Value) (vs:List V) (Q:VK) (E:XK),Room k A->Env0 P w K mg base A outer s H->BindsTo s fd args (ps.zip us)->Vals vs us->sp vs H Q E->
  codeAny (model P w) A (.call (.ref f) args) (CR CX outer P w H s Q E) s
theorem Env0.make {outer:List Env} (e:Env0 P w K mg base A outer s H) (C:Addr) (us:List Value) (kw:List (Str×Value)):
  Env0 P w K mg base (A.under (.builtin "type.__call__" ⟨.ref C::us,kw⟩)) outer s H:=⟨by first | exact e.frames | (simpa [Around.under,Code.envs,Code.isFrame,pushEnvs] using e.frames),e.mod,e.bs,e.bsz,e.funs,e.frf,e.hok,e.bare⟩
section
variable {X:Cx} {pins:List (Addr×Obj)} {σ:St} {H:Hp} {s s':Shared}
theorem Inv.env0 (I:Inv X pins σ H s):Env0 X.prog X.w X.K X.mg X.base X.A X.stack s H:=
 ⟨I.ok.frames,I.ok.mod,I.bs,Nat.le_trans I.ok.bsz I.sz,I.stack,I.Wj,I.hok,I.bare⟩
theorem Inv.after {Q:VK} (I:Inv X pins σ H s) (h:CE X.stack X.prog X.w H s Q u s'):EP X pins σ Q u s':=by obtain ⟨v,H',os,bare,un,hok,r,q⟩:=h;obtain ⟨hh,g,d,t,os'⟩:=s';obtain rfl:os'=s.os:=os;exact ⟨v,H',I.call (h':=hh) (g':=g) (d':=d) (t':=t) (ch:= []) un hok bare (λb z=>absurd z (by simp)),r,q⟩
end
noncomputable def ZFR (sp:Sp) (dvs:List V) (E:XK) (t:TA):TE:=λσ H Q=>t σ H λvs H1=>sp (vs++dvs) H1 Q E
noncomputable def Zy (C:Addr) (m:Str) (sp:Sp) (dvs:List V) (E:XK) (ta:TE) (t:TA):TE:=λσ H Q=>ta σ H λx H1=>∃a dx fs,x=.ref a/\H1 a=some (.ins C dx fs)/\fs.lookup m=none/\
 t σ H1 λvs H2=>sp (x::(vs++dvs)) H2 Q E
noncomputable def ZEU (C:Addr) (sp:Sp) (dvs:List V) (E:XK) (t:TA):TE:=λσ H Q=>t σ H λvs H1=>∀x dx,H1 x=none->H1 dx=none->dx≠x->
 sp (.ref x::(vs++dvs)) (upd (upd H1 dx (.own x)) x (.ins C dx [])) (λv H2=>v=.non/\Q (.ref x) H2) E
noncomputable def Binds (K:PySem.W.Frag) (fd:FuncData) (ps:List Str) (ds:List Value):Prop:=
 ∀(s:Shared) (us:List Value),K.In s.heap->(us++ds).length=ps.length->BindsTo s fd ⟨us,[]⟩ (ps.zip (us++ds))
theorem Binds.all {fd:FuncData} {ps:List Str} (h:∀us:List Value,us.length=ps.length->bindArgs fd ⟨us,[]⟩=pure (ps.zip us)):Binds K fd ps []:=λs us _ hl=>by rw [List.append_nil] at hl ⊢;exact .of_eq (h us hl)
noncomputable def Passes (CX:CXT) (X:Cx) (E:XK):Prop:=∀(pins:List (Addr×Obj)) (σ:St) (H:Hp) (s:Shared) (e:Value) (s':Shared),Inv X pins σ H s->CX X.stack H s E e s'->X.xe e s'
section
variable {X:Cx} {CX:CXT} {k:Nat} {f C:Addr} {fd:FuncData} {ps:List Str} {sp:Sp} {dvs:List V} {ds:List Value} {E:XK} {x m:Str} {p pos apos:Pos} {e o:Expr} {es:List Expr} {ta:TE} {t:TA}
theorem Yr {Q:VK} (F:FnOk X.prog X.w X.K X.mg X.base CX k f fd ps sp) (hr:Room k X.A) (hb:Binds X.K fd ps ds) (hd:Vals dvs ds) (hx:Passes CX X E)
  (I:Inv X pins σ H s) (r:Vals vs us) (h:sp (vs++dvs) H Q E):wpAny (model X.prog X.w) X.A (call (.ref f) us) (EP X pins σ Q) X.xe s:=by
 have r2:Vals (vs++dvs) (us++ds):=r.append hd;have hl:(us++ds).length=ps.length:=by rw [<-r2.length];exact F.len _ _ _ _ h
 refine wpAny_call (codeAny_mono (F.run X.A X.stack s H ⟨us,[]⟩ (us++ds) (vs++dvs) Q E hr I.env0 (hb s us I.kIn hl) r2 h) λr s' hq=> ?_);cases r with
 | error e=>exact hx pins σ H s e s' I hq
 | ok fl=>
  cases fl with
  | ret u=>exact I.after hq
  | next=>exact False.elim hq
  | brk=>exact False.elim hq
  | cont=>exact False.elim hq
theorem ZFM (F:FnOk X.prog X.w X.K X.mg X.base CX k f fd ps sp) (hr:Room k X.A) (hg:Gl X x) (hm:X.mg x=some (.ref f)) (hk:PySem.W.keepIn X.K (.ref f)=true) (hb:Binds X.K fd ps ds) (hd:Vals dvs ds) (hx:Passes CX X E)
  (ha:PA X (e::es) t) (hdb:(x == ("__debug__":Str))=false:=by decide) (he:starEach (e::es) X.env=(false,eval e X.env)::starEach es X.env:=by rfl) (hpl:(backTo pos (starEach es X.env)).any (·.1)=false:=by rfl):
  PE X (.Call (.Name x p) (e::es) [] pos) (ZFR sp dvs E t):=by
 intro pins s σ H Q I h;refine wpAny_Call_Name_kw (Yg I hg hm ?_ hdb);refine PySem.W.callWith_K (h₀:=X.base) I.ok.mod.kin hk (thn (ha pos pins s σ H _ I h) λus s1 ⟨vs,H1,I1,r,q⟩=>⟨I1.kIn,?_⟩) he hpl;exact Yr F hr hb hd hx I1 r q
theorem ZKF {pl:Sem Bool} (he:PE X o ta) (c:Cls X.K C) (hm:Meth X.K C m f) (F:FnOk X.prog X.w X.K X.mg X.base CX k f fd ps sp) (hr:Room k X.A) (hb:Binds X.K fd ps ds) (hd:Vals dvs ds) (hx:Passes CX X E) (ha:PA X (e::es) t)
  (hst:starEach (e::es) X.env=(false,eval e X.env)::starEach es X.env:=by rfl) (hpl:(backTo pos (starEach es X.env)).any (·.1)=false:=by rfl)
  (ht:eval (.Call (.Attribute o m apos) (e::es) [] pos) X.env=(do
   let ov<-eval o X.env
   standAt apos.atName
   let (f,first)<-holding [ov] (getMethod ov m pl)
   callWith pos f first (backTo pos (starEach (e::es) X.env)) (backToKw pos (keywordEach [] X.env))):=by rfl):
  PE X (.Call (.Attribute o m apos) (e::es) [] pos) (Zy C m sp dvs E ta t):=by
 intro pins s σ H Q I h;refine PySem.W.methodCall_KW (pl:=pl) (thn (he pins s σ H _ I h) λu s1 ⟨x,H1,I1,rx,a,dx,fs,ex,ea,l,q⟩=> ?_) ht;subst ex;obtain rfl:u=Value.ref a:=rx;refine Wt I1 ea c hm l ?_
 refine PySem.W.callWith_K (first:= [.ref a]) (h₀:=X.base) I.ok.mod.kin hm.kp (thn (ha pos pins s1 σ H1 _ I1 q) λus s2 ⟨vs,H2,I2,r,q2⟩=>⟨I2.kIn,?_⟩) hst hpl
 exact Yr (us:=.ref a::us) (vs:=.ref a::vs) F hr hb hd hx I2 (.cons rfl r) q2
theorem ZEB (he:PE X o ta) (c:Cls X.K C) (hm:Meth X.K C m f) (F:FnOk X.prog X.w X.K X.mg X.base CX k f fd ps sp) (hr:Room k X.A) (hb:Binds X.K fd ps ds) (hd:Vals dvs ds) (hx:Passes CX X E)
  (ht:eval (.Call (.Attribute o m apos) [] [] pos) X.env=(do
   let ov<-eval o X.env
   standAt apos.atName
   let (f,first)<-holding [ov] (getMethod ov m pl)
   callWith pos f first (backTo pos (starEach [] X.env)) (backToKw pos (keywordEach [] X.env))):=by rfl):
  PE X (.Call (.Attribute o m apos) [] [] pos) (Zy C m sp dvs E ta tNil):=by
 intro pins s σ H Q I h;refine PySem.W.methodCall_KW (pl:=pl) (thn (he pins s σ H _ I h) λu s1 ⟨x,H1,I1,rx,a,dx,fs,ex,ea,l,q⟩=> ?_) ht;subst ex;obtain rfl:u=Value.ref a:=rx;refine Wt I1 ea c hm l ?_
 exact PySem.W.callWith_K0 (first:= [.ref a]) I1.kIn hm.kp (Yr (us:= [.ref a]) (vs:= [.ref a]) F hr hb hd hx I1 (.cons rfl .nil) q)
structure Mk (K:PySem.W.Frag) (C f:Addr):Prop where
 makes:PySem.W.makesIn K C=true
 init:PySem.W.findIn K (.ref C) "__init__"=some (some (.ref f))
 fn:PySem.W.isFn K (.ref f)=true
 kp:PySem.W.keepIn K (.ref C)=true
theorem ZKI {Q:VK} (M:Mk X.K C f) (F:FnOk X.prog X.w X.K X.mg X.base CX k f fd ps sp) (hr:Room (k + 1) X.A) (hb:Binds X.K fd ps ds) (hd:Vals dvs ds)
  (hx:Passes CX X E) (I:Inv X pins σ H s) (r:Vals vs us)
  (h:∀x dx,H x=none->H dx=none->dx≠x->sp (.ref x::(vs++dvs)) (upd (upd H dx (.own x)) x (.ins C dx [])) (λv H2=>v=.non/\Q (.ref x) H2) E):
  wpAny (model X.prog X.w) X.A (call (.ref C) us) (EP X pins σ Q) X.xe s:=by
 have hq:=h (s.heap.objs.size + 1) s.heap.objs.size (I.hok.fresh (Nat.le_succ _)) (I.hok.fresh (Nat.le_refl _)) (Nat.ne_of_lt (Nat.lt_succ_self _));have I2:=Inv.made (C:=C) I;have r2:Vals (V.ref (s.heap.objs.size + 1)::(vs++dvs)) (Value.ref (s.heap.objs.size + 1)::(us++ds)):=.cons rfl (r.append hd);have hl:(Value.ref (s.heap.objs.size + 1)::us++ds).length=ps.length:=by have e:=r2.length;rw [F.len _ _ _ _ hq] at e;exact e.symm
 refine wpAny_call (ZKJ (f:=f) I.kIn M.makes M.init (beq_iff_eq.mp M.fn) (codeAny_mono (F.run _ X.stack _ _ ⟨Value.ref (s.heap.objs.size + 1)::us,[]⟩ (Value.ref (s.heap.objs.size + 1)::(us++ds)) _ _ E (hr.make C us [])
  (I2.env0.make C us []) (hb _ (Value.ref (s.heap.objs.size + 1)::us) I2.kIn hl) r2 hq) λr s' hq'=> ?_))
 cases r with
 | error e=>exact hx pins σ _ _ e s' I2 hq'
 | ok fl=>
  cases fl with
  | ret u=>
   obtain ⟨v,H',I3,rv,ev,q3⟩:=I2.after hq';subst ev;exact ⟨rv,⟨V.ref (s.heap.objs.size + 1),H',I3,rfl,q3⟩⟩
  | next=>exact False.elim hq'
  | brk=>exact False.elim hq'
  | cont=>exact False.elim hq'
theorem ZIx (M:Mk X.K C f) (F:FnOk X.prog X.w X.K X.mg X.base CX k f fd ps sp) (hr:Room (k + 1) X.A) (hg:Gl X x) (hm:X.mg x=some (.ref C)) (hb:Binds X.K fd ps ds) (hd:Vals dvs ds) (hx:Passes CX X E)
  (ha:PA X (e::es) t) (hdb:(x == ("__debug__":Str))=false:=by decide) (he:starEach (e::es) X.env=(false,eval e X.env)::starEach es X.env:=by rfl) (hpl:(backTo pos (starEach es X.env)).any (·.1)=false:=by rfl):
  PE X (.Call (.Name x p) (e::es) [] pos) (ZEU C sp dvs E t):=by
 intro pins s σ H Q I h;refine wpAny_Call_Name_kw (Yg I hg hm ?_ hdb);refine PySem.W.callWith_K (h₀:=X.base) I.ok.mod.kin M.kp (thn (ha pos pins s σ H _ I h) λus s1 ⟨vs,H1,I1,r,q⟩=>⟨I1.kIn,?_⟩) he hpl;exact ZKI M F hr hb hd hx I1 r q
end
section
variable {X:Cx} {CX:CXT} {k:Nat} {f C:Addr} {fd:FuncData} {ps ks:List Str} {sp:Sp} {E:XK} {x m:Str} {p pos apos kpos:Pos} {e o:Expr} {es:List Expr} {kws:List Keyword} {te ta:TE} {t tk:TA} {nm:Option Str}
variable {g:List Value->List Value->List Value} {gV:List V->List V->List V}
end
structure FnScope (N P:List Str) (sc:Scope):Prop where
 kind:sc.kind=.function
 co:sc.isCoroutine=false
 gen:sc.isGenerator=false
 nd:N.Nodup
 pre:N.take P.length=P
 par:∀x∈P,sc.names.lookup x=some .local∨sc.names.lookup x=some .cell
 nofree:∀y∈sc.names,y.2≠ .free
theorem ZDq:∀{binds:List (Str×Value)} {m:Str->Option Value},(∀v,(x,v) ∉ binds)->bindL kindOf binds m x=m x
 | [],_,_=>rfl
 | (n,v)::r,m,h=>by
  unfold bindL;rw [ZDq λw hw=>h w (List.mem_cons_of_mem _ hw)];split
  ·have:x≠n:=by rintro rfl;exact h v List.mem_cons_self
   simp [this]
  ·rfl
theorem ZCh:∀{binds:List (Str×Value)} {m:Str->Option Value},(∀v,(x,v) ∉ binds)->bindC kindOf binds m x=m x
 | [],_,_=>rfl
 | (n,v)::r,m,h=>by
  unfold bindC;rw [ZCh λw hw=>h w (List.mem_cons_of_mem _ hw)];split
  ·rfl
  ·have:x≠n:=by rintro rfl;exact h v List.mem_cons_self
   simp [this]
theorem ZCe {v:Value}:∀{P:List Str} {vs:List Value} {i:Nat} {m:Str->Option Value},P.Nodup->P[i]? =some x->vs[i]? =some v->kindOf x=some .local->
  bindL kindOf (P.zip vs) m x=some v
 | [],_,_,_,_,h,_,_=>by simp at h
 | _::_,[],_,_,_,_,h,_=>by simp at h
 | p::P,w::vs,0,m,nd,h1,h2,hk=>by simp at h1 h2;subst h1;subst h2;show bindL kindOf ((p,w)::P.zip vs) m p=_;unfold bindL;rw [ZDq λv hv=>(List.nodup_cons.mp nd).1 (List.of_mem_zip hv).1,if_pos hk];simp
 | p::P,w::vs,i + 1,m,nd,h1,h2,hk=>by show bindL kindOf ((p,w)::P.zip vs) m x=_;unfold bindL;exact ZCe (i:=i) (List.nodup_cons.mp nd).2 (by simpa using h1) (by simpa using h2) hk
theorem ZCd {v:Value}:∀{P:List Str} {vs:List Value} {i:Nat} {m:Str->Option Value},P.Nodup->P[i]? =some x->vs[i]? =some v->kindOf x≠some .local->
  bindC kindOf (P.zip vs) m x=some v
 | [],_,_,_,_,h,_,_=>by simp at h
 | _::_,[],_,_,_,_,h,_=>by simp at h
 | p::P,w::vs,0,m,nd,h1,h2,hk=>by simp at h1 h2;subst h1;subst h2;show bindC kindOf ((p,w)::P.zip vs) m p=_;unfold bindC;rw [ZCh λv hv=>(List.nodup_cons.mp nd).1 (List.of_mem_zip hv).1,if_neg hk];simp
 | p::P,w::vs,i + 1,m,nd,h1,h2,hk=>by show bindC kindOf ((p,w)::P.zip vs) m x=_;unfold bindC;exact ZCd (i:=i) (List.nodup_cons.mp nd).2 (by simpa using h1) (by simpa using h2) hk
noncomputable def start (N:List Str) (vs:List V):St:=vs.map some++List.replicate (N.length - vs.length) none
noncomputable def Jv (CX:CXT) (P:Program) (w:World) (K:PySem.W.Frag) (mg:Str->Option Value) (base:Heap) (N:List Str) (qual:Str) (scope:Scope) (f:Addr) (cd:Value) (A:Around) (outer:List Env) (s:Shared) (H:Hp) (E:XK):Cx where
 prog:=P
 w:=w
 K:=K
 mg:=mg
 base:=base
 A:=A.deeper (envOfC qual scope s.heap.objs.size f cd)
 N:=N
 s₀:=s
 H₀:=H
 env:=envOfC qual scope s.heap.objs.size f cd
 outer:=outer
 stack:=envOfC qual scope s.heap.objs.size f cd::outer
 ex:= []
 calm:=true
 fn:=λ_=>true
 pn:= []
 xe:=λe s'=>wpAny (model P w) (A.deeper (envOfC qual scope s.heap.objs.size f cd)) (leaving (envOfC qual scope s.heap.objs.size f cd) e) (λ_ s''=>CX outer H s E e s'') (λe' s''=>CX outer H s E e' s'') s'
theorem ZCb {sc:Scope} {n:Nat} (h:sc.names.lookup x=some .cell):∃c,(cellsFrom n sc.names []).lookup x=some c:=by have q:=PySem.W.cellsFrom_some sc.names n [] (.inl h);exact Option.isSome_iff_exists.mp q
theorem ZFB {CX:CXT} {N ps:List Str} {qual:Str} {scope:Scope} {f:Addr} {cd:Value} {outer:List Env} {s1:Shared} {E:XK} 
  (S:FnScope N ps scope) (hd:A.handled=none) (e0:Env0 P w K mg base A outer s H) (hl:vs.length=ps.length) (r:Vals vs us)
  (x:InCallC s s.heap.objs.size (bindL (envOfC qual scope s.heap.objs.size f cd).kindOf (ps.zip us) λ_=>none) (cellsFrom (s.heap.objs.size + 1) scope.names []) (bindC (envOfC qual scope s.heap.objs.size f cd).kindOf (ps.zip us) λ_=>none) s1):
  Inv (Jv CX P w K mg base N qual scope f cd A outer s H E) [] (start N vs) H s1:=by
 have hpl:ps.length<=N.length:=by have:=congrArg List.length S.pre;rw [List.length_take] at this;lia
 obtain ⟨h1,tk,rfl,hk⟩:=x.done
 have noA:∀b:Addr,b ∉ (Jv CX P w K mg base N qual scope f cd A outer s H E).ex:=λb z=>absurd (show b∈([]:List Addr) from z) (by simp)
 refine ⟨⟨e0.mod,S.kind,rfl,rfl,Nat.le_refl _,λy z c h1 h2=> ?_,λy hy=> ?_,λy c _ h=> ?_,λ_=>hd,Around.frames_deeper e0.frames,.inr ⟨rfl,rfl⟩,λb z=>absurd z (noA b),e0.bs,e0.bsz,λb _ _=>noA b,λb z=>absurd z (noA b),e0.funs,e0.frf⟩,
  rfl,e0.bare,Un.kept hk,⟨_,x.toInCall.ns,λi y v h1 h2 h3=> ?_⟩,λy c h=>⟨_,x.cell y c h⟩,e0.hok.fresh (Nat.le_refl _),λy c h=> ?_,λp hp=>absurd (show p∈([]:List (Addr×Obj)) from hp) (by simp),e0.hok.kept hk,?_⟩
 ·exact name_of_addr x.apart (PySem.mem_of_lookup h1) (PySem.mem_of_lookup h2)
 ·have hy:scope.names.lookup y=some .cell∨scope.names.lookup y=some .free:=hy;rcases hy with hy | hy
  ·exact ZCb hy
  ·exact absurd rfl (S.nofree _ (PySem.mem_of_lookup hy))
 ·exact Nat.le_of_lt (x.above y c (PySem.mem_of_lookup h))
 ·have hi:i < vs.length:=by
   unfold start at h2;by_cases hi:i < vs.length
   ·exact hi
   ·rw [List.getElem?_append_right (by simpa using hi)] at h2;rw [List.getElem?_replicate] at h2
    split at h2 <;> cases h2
  have ha:vs[i]? =some v:=by
   unfold start at h2;rw [List.getElem?_append_left (by simpa using hi),List.getElem?_map] at h2;cases e:vs[i]? with
   | none=>rw [e] at h2;cases h2
   | some a=>rw [e] at h2;cases h2;rfl
  obtain ⟨u,hu,rv⟩:=r.get ha;have hp:ps[i]? =some y:=by rw [<-S.pre,List.getElem?_take_of_lt (by lia)];exact h1
  have ndP:ps.Nodup:=by rw [<-S.pre];exact S.nd.sublist (List.take_sublist _ _)
  refine ⟨u,rv,?_⟩;rcases S.par y (List.mem_of_getElem? hp) with k | k
  ·exact .inl ⟨k,ZCe ndP hp hu k⟩
  ·obtain ⟨c,e⟩:=ZCb (n:=s.heap.objs.size + 1) k;refine .inr ⟨.inl k,c,e,?_⟩;have q:=x.cell y c e;rw [ZCd ndP hp hu (by show scope.names.lookup y≠_;rw [k];decide)] at q;exact q
 ·exact e0.hok.fresh (Nat.le_of_lt (x.above y c (PySem.mem_of_lookup h)))
 ·unfold start;show _=N.length;rw [List.length_append,List.length_map,List.length_replicate];lia
theorem ZA2 {CX:CXT} {f:Addr} {name qual:Str} {params:Arguments} {scope:Scope} {dV kV doc pm cdv ct oc:Value} {an od:Option Addr}
  {osl:Array (Option Value)} {N ps:List Str} {sp:Sp} (lk:K.lookup f=some ⟨oc,od,.func (PySem.W.fnOf name qual params body scope dV kV doc pm an cdv ct),osl⟩) (hcd:PySem.W.codeIn K cdv qual=true) (S:FnScope N ps scope)
  (len:∀vs H Q E,sp vs H Q E->vs.length=ps.length)
  (hbody:∀(A:Around) (outer:List Env) (s:Shared) (H:Hp) (vs:List V) (Q:VK) (E:XK),Room k (A.deeper (envOfC qual scope s.heap.objs.size f cdv))->sp vs H Q E->
   ∃t,PSs (Jv CX P w K mg base N qual scope f cdv A outer s H E) body t/\t {nx:=λ_ H'=>Q .non H',rt:=Q} (start N vs) H):
  FnOk P w K mg base CX (k + 1) f (PySem.W.fnOf name qual params body scope dV kV doc pm an cdv ct) ps sp:=by
 refine ⟨len,λA outer s H args us vs Q E hr e0 hb r hsp=> ?_⟩;have hl:=len _ _ _ _ hsp;have KX:K.In s.heap:=e0.mod.kin.keeps λb o e=>(e0.bs b o e).1
 have lim:s.heap.NoLimit:=e0.mod.nolimit.keeps λb o e=>(e0.bs b o e).1
 have hkind:∀y∈ps.zip us,scope.names.lookup y.1=some .local∨(scope.names.lookup y.1=some .cell/\((cellsFrom (s.heap.objs.size + 1) scope.names []).lookup y.1).isSome=true):=λ⟨n,v⟩ hy=>by
  rcases S.par n (List.of_mem_zip hy).1 with q | q
  ·exact .inl q
  ·exact .inr ⟨q,PySem.W.cellsFrom_some _ _ _ (.inl q)⟩
 refine codeAny_call_function hr.depth (KX _ _ lk) rfl S.co S.gen rfl (PySem.W.codeRec_of KX hcd) (hb _ _ _ _ ?_);refine wpAny_newFunctionEnv_cells S.kind hkind λenv he s1 x=> ?_
 subst he;refine ⟨lim.keeps x.toInCall.keep,codeAny_func ?_⟩;obtain ⟨t,ht,hq⟩:=hbody A outer s H vs Q E (hr.deeper _) hsp;have I:Inv (Jv CX P w K mg base N qual scope f cdv A outer s H E) [] (start N vs) H s1:=ZFB S hr.hd e0 hl r x;refine wpAny_mono (ht [] s1 (start N vs) H _ I hq) (λfl s' hs=> ?_) λe s' hs=>hs
 have fin:∀{σ':St} {H':Hp} {v:V} {u:Value},Inv (Jv CX P w K mg base N qual scope f cdv A outer s H E) [] σ' H' s'->RelV v u->Q v H'->CE outer P w H s Q u s':=
  λ{σ' H' v u} J rv q=>⟨v,H',J.os,J.bare,J.base,J.hok,rv,q⟩
 cases fl with
 | ret u=>
  obtain ⟨v,σ',H',J,rv,q⟩:=hs;exact fin J rv q
 | next=>
  obtain ⟨σ',H',J,q⟩:=hs;exact fin (v:=V.non) (u:=Value.none) J rfl q
 | brk=>
  obtain ⟨_,_,_,q⟩:=hs;exact False.elim q
 | cont=>
  obtain ⟨_,_,_,q⟩:=hs;exact False.elim q
section
variable {X:Cx} {x:Str} {p pos:Pos} {e:Expr} {es:List Expr} {t:TA} {id T:String} {r:List V->Hp->VK->Prop}
noncomputable def tCB (r:List V->Hp->VK->Prop) (t:TA):TE:=λσ H Q=>t σ H λvs H1=>r vs H1 Q
theorem ZIz (hc:CallR X (.builtin id) r) (hg:Gl X x) (hm:X.mg x=none) (hv:bootBuiltins x=some (.builtin id)) (ha:PA X (e::es) t) (hn:x≠"__name__":=by decide) (hdb:(x == ("__debug__":Str))=false:=by decide)
  (he:starEach (e::es) X.env=(false,eval e X.env)::starEach es X.env:=by rfl) (hpl:(backTo pos (starEach es X.env)).any (·.1)=false:=by rfl):PE X (.Call (.Name x p) (e::es) [] pos) (tCB r t):=by
 intro pins s σ H Q I h;refine wpAny_Call_Name_kw (Ij I hg hm hv ?_ hn hdb);exact PyProof.Rows.callWith_builtin1 (thn (ha pos pins s σ H _ I h) λus s1 ⟨vs,H1,I1,r1,q1⟩=>hc pins s1 σ H1 vs us Q I1 r1 q1) he hpl
theorem ZIb (hc:CallR X (.type T) r) (hg:Gl X x) (hm:X.mg x=none) (hv:bootBuiltins x=some (.type T)) (ha:PA X (e::es) t) (hn:x≠"__name__":=by decide) (hdb:(x == ("__debug__":Str))=false:=by decide)
  (he:starEach (e::es) X.env=(false,eval e X.env)::starEach es X.env:=by rfl) (hpl:(backTo pos (starEach es X.env)).any (·.1)=false:=by rfl):PE X (.Call (.Name x p) (e::es) [] pos) (tCB r t):=by
 intro pins s σ H Q I h;refine wpAny_Call_Name_kw (Ij I hg hm hv ?_ hn hdb);exact PyProof.Rows.callWith_type1 (thn (ha pos pins s σ H _ I h) λus s1 ⟨vs,H1,I1,r1,q1⟩=>hc pins s1 σ H1 vs us Q I1 r1 q1) he hpl
end
end L2
namespace HT
open PySem PyProof.Rows
section
open PySem.SeqAt
open PySem.AutoSeq1 (wpAny_loadPart')
open PySem.MeetsSeq PySem.MeetsSeq2 PySem.MeetsSeq3
end
section
variable {prog:Program} {w:World} {A:Around} {E:Value->Shared->Prop} {s:Shared}
theorem ZHG {t b:Addr} {vs ws:List Value} {Q:Value->Shared->Prop} (ht:IsTup s.heap t vs.toArray) (hb:IsTup s.heap b ws.toArray) (hv:vs≠ [])
  (h1:ws= []->Q (.ref t) s) (h2:ws≠ []->Q (.ref s.heap.objs.size) {s with heap:=s.heap.push {cls:=.type "tuple",data:=.seq (vs++ws).toArray}})
  (hsz:vs.length + ws.length<=sizeLine):wpAny (model prog w) A (binaryOp .Add (.ref t) (.ref b)) Q E s:=by
 obtain ⟨⟨cls,dd,data,sl⟩,ho,hc,n,hd⟩:=id ht;obtain ⟨⟨cls2,dd2,data2,sl2⟩,ho2,hc2,n2,hd2⟩:=id hb;simp only at hc hd hc2 hd2;subst hc hd hc2 hd2;have e:vs.toArray++ws.toArray=(vs++ws).toArray:=by simp
 by_cases hw:ws= []
 ·exact concat_meets ⟨_,ho,rfl⟩ ⟨_,ho2,rfl⟩ noFill_tuple_add seq_tuple_add PySem.F.slot_tuple_add PySem.F.entry_tuple_add (PySem.F.args_tuple_add_2 _ _)
   (tuple_addW1 t b vs.toArray ws.toArray n n2 dd dd2 sl sl2 (by simpa using hv) (by simp [hw])) ⟨ho,ho2,h1 hw⟩
 ·refine concat_meets ⟨_,ho,rfl⟩ ⟨_,ho2,rfl⟩ noFill_tuple_add seq_tuple_add PySem.F.slot_tuple_add PySem.F.entry_tuple_add (PySem.F.args_tuple_add_2 _ _)
   (tuple_addW2 t b vs.toArray ws.toArray n n2 dd dd2 sl sl2 (by simpa using hv) (by simpa using hw) (by rw [List.size_toArray,List.size_toArray];exact hsz)) ⟨ho,ho2,?_⟩
  rw [e];exact h2 hw
noncomputable def sIx (n d:Nat):Option Int->Nat
 | none=>d
 | some v=>if v < 0 then (v + (n:Int)).toNat else min v.toNat n
theorem ZCO (n d:Nat) (hd:d<=n) (o:Option Int):sIx n d o<=n:=by
 cases o with
 | none=>exact hd
 | some v=>
  show (if v < 0 then (v + (n:Int)).toNat else min v.toNat n)<=n;by_cases hv:v < 0
  ·rw [if_pos hv];lia
  ·rw [if_neg hv];exact Nat.min_le_right _ _
theorem ZBM (v:Int) (n d:Nat):(if v < 0 then max (v + (n:Int)) 0 else min v (n:Int))=((sIx n d (some v):Nat):Int):=by
 show (if v < 0 then max (v + (n:Int)) 0 else min v (n:Int))=(((if v < 0 then (v + (n:Int)).toNat else min v.toNat n):Nat):Int);by_cases hv:v < 0
 ·simp only [if_pos hv];lia
 ·simp only [if_neg hv];lia
theorem ZKk (lo hi:Option Int) (n:Nat):Builtin.Slice.sliceAdjust lo hi 1 (n:Int)=(((sIx n 0 lo:Nat):Int),((sIx n n hi:Nat):Int)):=by
 have h1:¬((1:Int) < 0):=by lia
 unfold Builtin.Slice.sliceAdjust;simp only [h1,if_false];refine Prod.ext ?_ ?_
 ·cases lo with
  | none=>rfl
  | some v=>exact ZBM v n 0
 ·cases hi with
  | none=>rfl
  | some v=>exact ZBM v n n
theorem ZLD (i j:Nat):Builtin.Slice.slicePlaces (i:Int) (j:Int) 1=j - i:=by
 unfold Builtin.Slice.slicePlaces;have h1:(1:Int) > 0:=by lia
 simp only [h1,if_true,Int.ediv_one]
 split <;> lia
theorem ZBo {v:Value} {o:Option Int} {Q:Option Int->Shared->Prop} (p:IsPart v o) (h:Q o s):wpAny (model prog w) A (Builtin.Slice.slicePartIndex v) Q E s:=by
 cases p with
 | none=>exact slicePart_none h
 | int i t=>exact slicePart_int h
theorem ZCc {sl:Addr} {vl vu:Value} {lo hi:Option Int} {n:Nat} {Q:Int×Int×Nat->Shared->Prop} (hs:s.heap.IsSliceOf sl vl vu .none) (pl:IsPart vl lo) (pu:IsPart vu hi)
  (h:Q (((sIx n 0 lo:Nat):Int),1,sIx n n hi - sIx n 0 lo) s):wpAny (model prog w) A (Builtin.Slice.sliceApplied (.ref sl) (pure (n:Int))) Q E s:=by
 obtain ⟨os,hos,hcs,hds⟩:=id hs;unfold Builtin.Slice.sliceApplied Builtin.Slice.sliceFields;refine wpAny_bind (wpAny_bind (wpAny_field hos hds (x:=vl) rfl (wpAny_bind (wpAny_field hos hds (x:=vu) rfl (wpAny_bind (wpAny_field hos hds (x:=.none) rfl (wpAny_pure ?_)))))));refine wpAny_bind (slicePart_none ?_);show wpAny _ _ (if ((1:Int) == 0)=true then _ else _) _ _ s;rw [if_neg (by decide)];refine wpAny_bind (ZBo pl (wpAny_bind (ZBo pu (wpAny_bind (wpAny_pure ?_)))))
 show wpAny _ _ (match Builtin.Slice.sliceAdjust lo hi 1 (n:Int) with | (lo,hi)=>pure (lo,(1:Int),Builtin.Slice.slicePlaces lo hi 1)) _ _ s
 rw [ZKk lo hi n];show wpAny _ _ (pure (((sIx n 0 lo:Nat):Int),(1:Int),Builtin.Slice.slicePlaces ((sIx n 0 lo:Nat):Int) ((sIx n n hi:Nat):Int) 1)) _ _ s;rw [ZLD];exact wpAny_pure h
theorem ZGG (xs:Array Value) (i k:Nat):((List.range k).filterMap λ(m:Nat)=>xs[((i:Int) + (m:Int) * 1).toNat]?).toArray=((xs.toList.drop i).take k).toArray:=by
 have e:(λ(m:Nat)=>xs[((i:Int) + (m:Int) * 1).toNat]?)=λm=>xs[i + m]? :=by
  funext m;have:((i:Int) + (m:Int) * 1).toNat=i + m:=by lia
  rw [this]
 rw [e];have:=pick_run xs i k;rw [List.filterMap_map] at this;have e2:((λx=>xs[x]?) ∘ λx=>i + x)=λm=>xs[i + m]? :=rfl
 rw [e2] at this;rw [this]
theorem ZKm {t sl:Addr} {items:Array Value} {vl vu:Value} {lo hi:Option Int} {Q:Value->Shared->Prop} (ht:IsTup s.heap t items) (hs:s.heap.IsSliceOf sl vl vu .none) (pl:IsPart vl lo) (pu:IsPart vu hi)
  (hw:¬(sIx items.size 0 lo=0/\sIx items.size items.size hi=items.size))
  (h:Q (.ref s.heap.objs.size) {s with heap:=s.heap.push {cls:=.type "tuple",data:=.seq ((items.toList.drop (sIx items.size 0 lo)).take (sIx items.size items.size hi - sIx items.size 0 lo)).toArray}})
  (hsz:items.size<=sizeLine):wpAny (model prog w) A (getItem (.ref t) (.ref sl)) Q E s:=by
 have htake:sizeOk (.seq ((items.toList.drop (sIx items.size 0 lo)).take (sIx items.size items.size hi - sIx items.size 0 lo)).toArray):=by show ((items.toList.drop (sIx items.size 0 lo)).take (sIx items.size items.size hi - sIx items.size 0 lo)).toArray.size<=sizeLine;rw [List.size_toArray,List.length_take,List.length_drop,Array.length_toList];lia
 have hj:sIx items.size items.size hi<=items.size:=ZCO _ _ (Nat.le_refl _) hi;obtain ⟨os,hos,hcs,hds⟩:=id hs;have hTs:s.TypeIs (.ref sl) "slice":=⟨os,hos,hcs⟩;unfold getItem
 try with_reducible refine wpAny_holding ?_
 first | refine wpAny_bind (wpAny_pure ?_) | skip
 refine wpAny_bind (wpAny_sequenceKey ht.typeIs (by decide) ?_);refine wpAny_bind (wpAny_callSpecial?_slot (name:=Str.ofString "__getitem__") ht.typeIs PyProof.Rows.slot_tuple_getitem
  (wpAny_call_entry PyProof.Rows.slot_tuple_getitem ht.typeIs entry_tuple_getitem ?_ (args_tuple_getitem _ _)))
 show wpAny _ _ (Builtin.Tuple.tupleItemsOf (.ref t) >>=_) _ _ s;refine wpAny_bind (tupleItemsOf_ ht ?_);refine wpAny_bind (wpAny_typeOf hTs ?_);rw [if_pos (by decide)];refine wpAny_bind (ZCc hs pl pu ?_);have hno:¬((((sIx items.size 0 lo:Nat):Int) == 0 && (1:Int) == 1 && (sIx items.size items.size hi - sIx items.size 0 lo) == items.size)=true):=by intro q;rw [Bool.and_eq_true,Bool.and_eq_true] at q;have q1:((sIx items.size 0 lo:Nat):Int)=0:=eq_of_beq q.1.1;have q2:sIx items.size items.size hi - sIx items.size 0 lo=items.size:=eq_of_beq q.2;exact hw ⟨by lia,by lia⟩
 show wpAny _ _ (if (((sIx items.size 0 lo:Nat):Int) == 0 && (1:Int) == 1 && (sIx items.size items.size hi - sIx items.size 0 lo) == items.size)=true then _ else _) _ _ s;rw [if_neg hno,ZGG]
 first
  | exact wpAny_bind (m:=Builtin.Tuple.tupleExact _) (wpAny_newObj_type (wpAny_pure ⟨_,rfl,wpAny_pure h⟩) htake)
  | exact wpAny_bind (m:=Builtin.Tuple.tupleExact _) (wpAny_newObj_type (wpAny_bind (wpAny_pure (wpAny_pure ⟨_,rfl,wpAny_pure h⟩))) htake)
  | exact wpAny_bind (wpAny_bind (m:=Builtin.Tuple.tupleExact _) (wpAny_newObj_type (wpAny_pure (wpAny_pure ⟨_,rfl,wpAny_pure h⟩)) htake))
  | exact wpAny_bind (wpAny_bind (m:=Builtin.Tuple.tupleExact _) (wpAny_newObj_type (wpAny_pure ⟨_,rfl,wpAny_pure h⟩) htake))
end
end HT
namespace L2
open PySem PySem.Spec PyProof.Rows
variable {xs:List V} {n:Nat} {pins:List (Addr×Obj)} {σ:St} {H:Hp} {s:Shared} {its:List Value}
noncomputable abbrev TO:=St->Hp->(Option Int->Hp->Prop)->Prop
noncomputable def PO (X:Cx) (e:Option Expr) (t:TO):Prop:=
 ∀(pins:List (Addr×Obj)) (s:Shared) (σ:St) (H:Hp) (Q:Option Int->Hp->Prop),Inv X pins σ H s->t σ H Q->
  wpAny (model X.prog X.w) X.A (evalPart e X.env) (λu s'=>∃o H',Inv X pins σ H' s'/\IsPart u o/\Q o H') X.xe s
noncomputable def ZJN:TO:=λ_ H Q=>Q none H
noncomputable def ZGd (t:TE):TO:=λσ H Q=>t σ H λx H1=>∃i,x=.int i/\Q (some i) H1
section
variable {X:Cx} {e:Expr} {te:TE} {lo hi:Option Expr} {tl th:TO} {pos p2:Pos}
theorem ZJo:PO X none ZJN:=by intro pins s σ H Q I h;rw [evalPart_none];exact wpAny_pure ⟨none,H,I,.none,h⟩
theorem ZE0 (h:PE X e te):PO X (some e) (ZGd te):=by
 intro pins s σ H Q I hw;rw [evalPart_some];refine thn (h pins s σ H _ I hw) λu s1 ⟨x,H1,I1,r1,q1⟩=> ?_
 obtain ⟨i,rfl,q⟩:=q1;obtain ⟨t,rfl⟩:=r1;exact ⟨some i,H1,I1,.int i t,q⟩
noncomputable def SlR (X:Cx) (r:V->Option Int->Option Int->Hp->VK->Prop):Prop:=
 ∀(pins:List (Addr×Obj)) (s:Shared) (σ:St) (H:Hp) (x:V) (v vl vu:Value) (lo hi:Option Int) (sl:Addr) (Q:VK),Inv X pins σ H s->RelV x v->s.heap.IsSliceOf sl vl vu .none->IsPart vl lo->IsPart vu hi->r x lo hi H Q->
  ∃T id,typeLookup (.type T) "__getitem__"=pure (some (.builtin id))/\s.TypeIs v T/\wpAny (model X.prog X.w) X.A (getItem v (.ref sl)) (EP X pins σ Q) X.xe s
theorem SlR.or {r r':V->Option Int->Option Int->Hp->VK->Prop} (h:SlR X r) (h':SlR X r'):SlR X (λx lo hi H Q=>r x lo hi H Q∨r' x lo hi H Q):=by
 intro pins s σ H x v vl vu lo hi sl Q I rx hs pl pu q;rcases q with q | q
 ·exact h pins s σ H x v vl vu lo hi sl Q I rx hs pl pu q
 ·exact h' pins s σ H x v vl vu lo hi sl Q I rx hs pl pu q
noncomputable def tSl (r:V->Option Int->Option Int->Hp->VK->Prop) (te:TE) (tl th:TO):TE:=λσ H Q=>te σ H λx H1=>tl σ H1 λl H2=>th σ H2 λu H3=>r x l u H3 Q
theorem ZD8 {r:V->Option Int->Option Int->Hp->VK->Prop} (hr:SlR X r) (he:PE X e te) (hl:PO X lo tl) (hu:PO X hi th):PE X (.Subscript e (.Slice lo hi none p2) pos) (tSl r te tl th):=by
 intro pins s σ H Q I h;refine Subscript_ (thn (he pins s σ H _ I h) λv s1 ⟨x,H1,I1,r1,q1⟩=> ?_);refine wpAny_Slice (thn (hl pins s1 σ H1 _ I1 q1) λvl s2 ⟨l,H2,I2,pl,q2⟩=>thn (hu pins s2 σ H2 _ I2 q2) λvu s3 ⟨u,H3,I3,pu,q3⟩=> ?_);rw [evalPart_none];refine wpAny_pure ?_;have I4:Inv X pins σ H3 {s3 with heap:=s3.heap.push {cls:=.type "slice",data:=.fields #[vl,vu,.none]}}:=I3.kept (t':=s3.toks) λb ob q=>Heap.get?_push_of_some _ q
 obtain ⟨T,id,hT,ht,hg⟩:=hr pins {s3 with heap:=s3.heap.push {cls:=.type "slice",data:=.fields #[vl,vu,.none]}} σ H3 x v vl vu l u s3.heap.objs.size Q I4 r1 (Heap.IsSliceOf.new ..) pl pu q3;show wpAny (model X.prog X.w) X.A (subscriptTail e (.Slice lo hi none p2) v (.ref s3.heap.objs.size)) (EP X pins σ Q) X.xe {s3 with heap:=s3.heap.push {cls:=.type "slice",data:=.fields #[vl,vu,.none]}}
 exact tail_any (ops:= [.ref s3.heap.objs.size,v]) ht hT hg (by with_unfolding_all rfl)
noncomputable def Js (xs:List V) (lo hi:Option Int):List V:=(xs.drop (HT.sIx xs.length 0 lo)).take (HT.sIx xs.length xs.length hi - HT.sIx xs.length 0 lo)
theorem ZCr (xs:List V) (lo hi:Option Int):(Js xs lo hi).length<=xs.length:=by unfold Js;rw [List.length_take,List.length_drop];lia
noncomputable def rSlT (K:PySem.W.Frag):V->Option Int->Option Int->Hp->VK->Prop:=λx lo hi H Q=>∃a xs,x=.ref a/\SqT K H a xs/\
 ¬(HT.sIx xs.length 0 lo=0/\HT.sIx xs.length xs.length hi=xs.length)/\∀p,H p=none->Q (.ref p) (upd H p (.tup (Js xs lo hi)))
theorem ZKr:SlR X (rSlT X.K):=by
 intro pins s σ H x v vl vu lo hi sl Q I rx hs pl pu h;obtain ⟨a,xs,rfl,hx,hw,q⟩:=h;cases rx;obtain ⟨its,r,ht,hz⟩:=I.tuple hx;have hlen:its.toArray.size=xs.length:=by rw [List.size_toArray];exact r.length.symm
 refine ⟨"tuple",_,PyProof.Rows.slot_tuple_getitem.lookup,ht.typeIs,?_⟩;refine HT.ZKm ht hs pl pu (by rw [hlen];exact hw) ?_ (by rw [hlen];exact hz);rw [hlen];refine ⟨.ref s.heap.objs.size,_,I.laid (t':=s.toks) (o:=.tup (Js xs lo hi)) (λb ob q=>Heap.get?_push_of_some _ q) (Nat.le_refl _) ?_,rfl,q _ (I.hok.fresh (Nat.le_refl _))⟩;exact ⟨Nat.le_trans (ZCr xs lo hi) hz,_,(r.drop (HT.sIx xs.length 0 lo)).take (HT.sIx xs.length xs.length hi - HT.sIx xs.length 0 lo),IsTup.new _ _⟩
noncomputable def ZBu (K:PySem.W.Frag):R2:=λx y H Q=>∃a b xs ys,x=.ref a/\y=.ref b/\SqT K H a xs/\SqT K H b ys/\xs≠ []/\xs.length + ys.length<=sizeLine/\
 (ys= []->Q (.ref a) H)/\(ys≠ []->∀p,H p=none->Q (.ref p) (upd H p (.tup (xs++ys))))
theorem Vals.Xh {us:List Value} (r:Vals xs us):us= []↔xs= []:=by
 cases r with
 | nil=>simp
 | cons _ _=>simp
theorem ZEZ:OpR X (binaryOp .Add) (ZBu X.K):=by
 intro pins s σ H x y v u Q I rx ry h;obtain ⟨a,b,xs,ys,rfl,rfl,ha,hb,hx,hz,q1,q2⟩:=h;cases rx;cases ry;obtain ⟨its,r1,p1,_⟩:=I.tuple ha;obtain ⟨its2,r2,p2,_⟩:=I.tuple hb;refine HT.ZHG p1 p2 (λz=>hx (r1.Xh.mp z)) (λz=>⟨.ref a,H,I,rfl,q1 (r2.Xh.mp z)⟩) (λz=> ?_) (by rw [<-r1.length,<-r2.length];exact hz);refine ⟨.ref s.heap.objs.size,_,I.laid (t':=s.toks) (o:=.tup (xs++ys)) (λb ob q=>Heap.get?_push_of_some _ q) (Nat.le_refl _) ?_,rfl,q2 (λw=>z (r2.Xh.mpr w)) _ (I.hok.fresh (Nat.le_refl _))⟩
 exact ⟨by rw [List.length_append];exact hz,_,r1.append r2,IsTup.new _ _⟩
end
noncomputable def ixN (n:Nat) (i:Int):Option Nat:=if 0<=i then (if i < n then some i.toNat else none) else if -(n:Int)<=i then some (i + n).toNat else none
noncomputable def atI {α:Type} (xs:List α) (i:Int):Option α:=(ixN xs.length i).bind λj=>xs[j]?
theorem ZC1 {i:Int} {j:Nat} (h:ixN n i=some j):seqIndex? i n=some j/\j < n/\ -(n:Int)<=i/\i < n:=by
 unfold ixN at h;by_cases h0:0<=i
 ·rw [if_pos h0] at h;by_cases h1:i < n
  ·rw [if_pos h1] at h;have e:i.toNat=j:=Option.some.inj h;exact ⟨by rw [seqIndex_of h0 h1,e],by lia,by lia,h1⟩
  ·rw [if_neg h1] at h;cases h
 ·rw [if_neg h0] at h;by_cases h1: -(n:Int)<=i
  ·rw [if_pos h1] at h;have e:(i + n).toNat=j:=Option.some.inj h;exact ⟨by rw [seqIndex_neg (by lia) h1,e],by lia,h1,by lia⟩
  ·rw [if_neg h1] at h;cases h
theorem T8 {α:Type} {xs:List α} {i:Int} {v:α} (h:atI xs i=some v):∃j,seqIndex? i xs.length=some j/\xs[j]? =some v/\j < xs.length/\ -(xs.length:Int)<=i/\i < xs.length:=by
 unfold atI at h;cases e:ixN xs.length i with
 | none=>rw [e] at h;cases h
 | some j=>
  rw [e] at h;obtain ⟨h1,h2,h3,h4⟩:=ZC1 e;exact ⟨j,h1,h,h2,h3,h4⟩
noncomputable def PlainIx (b:Expr):Prop:=∀o i,subscripted b false o i=operate [o,i] (getItem o i)
noncomputable def IxR (X:Cx) (r:R2):Prop:=
 ∀(value slice:Expr) (pins:List (Addr×Obj)) (s:Shared) (σ:St) (H:Hp) (x y:V) (v u:Value) (Q:VK),Inv X pins σ H s->RelV x v->RelV y u->r x y H Q->
  subscripted slice false v u=operate [v,u] (getItem v u)->wpAny (model X.prog X.w) X.A (subscriptTail value slice v u) (EP X pins σ Q) X.xe s
noncomputable def MtR (X:Cx) (id:String) (r:V->List V->Hp->VK->Prop):Prop:=
 ∀(pins:List (Addr×Obj)) (s:Shared) (σ:St) (H:Hp) (x:V) (xs:List V) (v:Value) (us:List Value) (Q:VK),Inv X pins σ H s->RelV x v->Vals xs us->r x xs H Q->
  wpAny (model X.prog X.w) X.A (call (.builtin id) (v::us)) (EP X pins σ Q) X.xe s
section
variable {X:Cx} {a b:Expr} {ta tb:TE} {pos:Pos}
theorem IxR.or {r r':R2} (h:IxR X r) (h':IxR X r'):IxR X (λx y H Q=>r x y H Q∨r' x y H Q):=by
 intro value slice pins s σ H x y v u Q I rx ry q hs;rcases q with q | q
 ·exact h value slice pins s σ H x y v u Q I rx ry q hs
 ·exact h' value slice pins s σ H x y v u Q I rx ry q hs
theorem ZGq {r:R2} (hr:IxR X r) (ha:PE X a ta) (hb:PE X b tb) (hs:PlainIx b):PE X (.Subscript a b pos) (tOp r ta tb):=by intro pins s σ H Q I h;exact Subscript_ (ZAY ha hb I h λv u s2 x y H2 I2 rx ry q=>hr a b pins s2 σ H2 x y v u Q I2 rx ry q (hs _ _))
noncomputable def rIxL (K:PySem.W.Frag):R2:=λx y H Q=>∃p xs i v,x=.ref p/\y=.int i/\SqL K H p xs/\atI xs i=some v/\Q v H
noncomputable def rIxT (K:PySem.W.Frag):R2:=λx y H Q=>∃p xs i v,x=.ref p/\y=.int i/\SqT K H p xs/\atI xs i=some v/\Q v H
noncomputable def rIxS:R2:=λx y H Q=>∃z i c,x=.str z/\y=.int i/\z.length<=sizeLine/\atI z.cps.toList i=some c/\Q (.str ⟨#[c]⟩) H
theorem ZEh:IxR X (rIxL X.K):=by
 intro value slice pins s σ H x y v u Q I rx ry h hs;obtain ⟨p,xs,i,z,rfl,rfl,hq,he,q⟩:=h;cases rx;obtain ⟨t,rfl⟩:=ry;obtain ⟨its,r,pl,hz⟩:=I.list hq;obtain ⟨j,h1,h2,h3,h4,h5⟩:=T8 he;obtain ⟨w,ew,rw'⟩:=r.get h2;have hl:=r.length;have hn:=line63;have fin:EP X pins σ Q w s:=⟨z,H,I,rw',q⟩;by_cases h0:0<=i
 ·have hj:i.toNat=j:=by rw [seqIndex_of h0 h5] at h1;exact Option.some.inj h1
  exact item_listR pl.isList h0 (by lia) (by rw [hj];simpa using ew) fin hs
 ·have hj:(i + (its.toArray.size:Int)).toNat=j:=by rw [seqIndex_neg (by lia) h4] at h1;rw [List.size_toArray,<-hl];exact Option.some.inj h1
  exact subscriptTail_builtinR (x:=w) pl.isList.typeIs slot_list_getitem.lookup
   (wpAny_getItem_list_neg (Q:=λr s'=>r=w/\EP X pins σ Q r s') pl.isList (by lia) (by rw [List.size_toArray] <;> lia) (by lia) (by rw [hj];simpa using ew) ⟨rfl,fin⟩) hs
theorem ZG6:IxR X (rIxT X.K):=by
 intro value slice pins s σ H x y v u Q I rx ry h hs;obtain ⟨p,xs,i,z,rfl,rfl,hq,he,q⟩:=h;cases rx;obtain ⟨t,rfl⟩:=ry;obtain ⟨its,r,pl,hz⟩:=I.tuple hq;obtain ⟨j,h1,h2,h3,h4,h5⟩:=T8 he;obtain ⟨w,ew,rw'⟩:=r.get h2;have hl:=r.length;have hn:=line63;have fin:EP X pins σ Q w s:=⟨z,H,I,rw',q⟩;exact subscriptTail_builtinR (x:=w) pl.typeIs slot_tuple_getitem.lookup
  (getItem_tuple (j:=j) (Q:=λr s'=>r=w/\EP X pins σ Q r s') pl (by lia) (by lia) (by rw [List.size_toArray,<-hl];exact h1) (by simpa using ew) ⟨rfl,fin⟩) hs
theorem ZFD:IxR X rIxS:=by
 intro value slice pins s σ H x y v u Q I rx ry h hs;obtain ⟨z,i,c,rfl,rfl,hz,he,q⟩:=h;obtain ⟨t,rfl⟩:=rx;obtain ⟨t',rfl⟩:=ry;obtain ⟨j,h1,h2,h3,h4,h5⟩:=T8 he;have hl:z.cps.toList.length=z.length:=by simp [Str.length]
 rw [hl] at h1 h4 h5;have hn:=line63;exact tail_any (typeIs_str s z t) slot_str_getitem.lookup (getItem_str (c:=c) (by have e1:decide (i < -(2 ^ 63:Int))=false:=decide_eq_false (by lia);have e2:decide (i ≥ 2 ^ 63)=false:=decide_eq_false (by lia);rw [e1,e2,Bool.or_false]) (by rw [h1];simpa using h2) ⟨.str ⟨#[c]⟩,H,I.tok _,⟨_,rfl⟩,q⟩) hs
noncomputable def rIx (K:PySem.W.Frag):R2:=λx y H Q=>rIxL K x y H Q∨rIxT K x y H Q∨rIxS x y H Q
theorem ZJj:IxR X (rIx X.K):=ZEh.or (ZG6.or ZFD)
theorem ZHl (its:List Value) (n j:Nat) (u:Value):Obj.mapSeq (·.setIfInBounds j u) {cls:=.type "list",data:=.seq its.toArray n}={cls:=.type "list",data:=.seq (its.set j u).toArray n}:=by simp [Obj.mapSeq]
theorem Inv.lst {p:Addr} (I:Inv X pins σ H s) (h:H p=some (.lst xs)):
  ∃(its:List Value) (n:Nat),Vals xs its/\s.heap.get? p=some {cls:=.type "list",data:=.seq its.toArray n}/\xs.length<=sizeLine:=by
 obtain ⟨z,its,n,r,e⟩:=I.hok p _ h;exact ⟨its,n,r,e,z⟩
theorem Inv.ZGR {p:Addr} {ys:List V} {its':List Value} {n':Nat} {f:Obj->Obj} (I:Inv X pins σ H s) (h:H p=some (.lst xs))
  (ho:s.heap.get? p=some {cls:=.type "list",data:=.seq its.toArray n}) (hf:f {cls:=.type "list",data:=.seq its.toArray n}={cls:=.type "list",data:=.seq its'.toArray n'}) (r:Vals ys its') (hz:ys.length<=sizeLine) (t:Nat):
  Inv X pins σ (upd H p (.lst ys)) {s with heap:=s.heap.update p f,toks:=t}:=by
 have e:(s.heap.update p f).get? p=some {cls:=.type "list",data:=.seq its'.toArray n'}:=by rw [Heap.get?_update_self f ho (by rw [hf] <;> rfl),hf]
 refine I.write (x:=p) (e:=p) (by rw [h];trivial) (.inl rfl) (λb u hb q=>(Heap.get?_update_other _ _ (Ne.symm hb)).trans q) ⟨_,e⟩ ?_;exact ⟨hz,its',n',r,e⟩
noncomputable def ZIF:V->V->V->Hp->(Hp->Prop)->Prop:=λo i v H Q=>∃p xs k j,o=.ref p/\i=.int k/\H p=some (.lst xs)/\ixN xs.length k=some j/\Q (upd H p (.lst (xs.set j v)))
theorem set_list:PSet X ZIF:=by
 intro pins s σ H o i v ov iv u Q I ro ri rv h;obtain ⟨p,xs,k,j,rfl,rfl,hp,hj,q⟩:=h;cases ro;obtain ⟨t,rfl⟩:=ri;obtain ⟨its,n,r,ho,hz⟩:=I.lst hp;obtain ⟨h1,h2,h3,h4⟩:=ZC1 hj;have hl:=r.length;have hn:=line63
 have I':Inv X pins σ (upd H p (.lst (xs.set j v))) {s with heap:=s.heap.update p (Obj.mapSeq (·.setIfInBounds j u))}:=
  I.ZGR hp ho (ZHl its n j u) (r.set rv j) (by rw [List.length_set];exact hz) s.toks
 by_cases h0:0<=k
 ·have hk:k.toNat=j:=by rw [seqIndex_of h0 h4] at h1;exact Option.some.inj h1
  exact PySem.W.ki_setAt ho h0 (by lia) (by rw [List.size_toArray,<-hl];exact h4) (by rw [hk];exact ⟨_,I',q⟩)
 ·have hk:(k + (its.toArray.size:Int)).toNat=j:=by rw [seqIndex_neg (by lia) h3] at h1;rw [List.size_toArray,<-hl];exact Option.some.inj h1
  exact PySem.W.ki_setBack ho (by lia) (by rw [List.size_toArray,<-hl];exact h3) (by lia) (by rw [hk];exact ⟨_,I',q⟩)
theorem ZJu (lo hi:Option Int) (n:Nat):(sliceBounds lo hi none n).1=((HT.sIx n 0 lo:Nat):Int)/\(sliceBounds lo hi none n).2.1=((HT.sIx n n hi:Nat):Int)/\(sliceBounds lo hi none n).2.2=1:=by
 refine ⟨?_,?_,rfl⟩
 ·cases lo with
  | none=>simp [sliceBounds,HT.sIx]
  | some i=>
   simp only [sliceBounds,HT.sIx,Option.getD_none,show (1:Int) > 0 by decide,if_true];by_cases h:i < 0
   ·simp only [h,if_true] <;> lia
   ·simp only [h,if_false] <;> lia
 ·cases hi with
  | none=>simp [sliceBounds,HT.sIx]
  | some i=>
   simp only [sliceBounds,HT.sIx,Option.getD_none,show (1:Int) > 0 by decide,if_true];by_cases h:i < 0
   ·simp only [h,if_true] <;> lia
   ·simp only [h,if_false] <;> lia
theorem ZGz (its:List Value) (lo hi:Option Int):slicePick its.toArray lo hi none=((its.drop (HT.sIx its.length 0 lo)).take (HT.sIx its.length its.length hi - HT.sIx its.length 0 lo)).toArray:=by
 obtain ⟨h1,h2,h3⟩:=ZJu lo hi its.toArray.size;unfold slicePick;rw [h1,h2,h3]
 simp only [sliceRange_one,pick_run,List.size_toArray] <;> rfl
noncomputable def rSlL (K:PySem.W.Frag):V->Option Int->Option Int->Hp->VK->Prop:=λx lo hi H Q=>∃a xs,x=.ref a/\SqL K H a xs/\∀p,H p=none->Q (.ref p) (upd H p (.lst (Js xs lo hi)))
theorem ZEt:SlR X (rSlL X.K):=by
 intro pins s σ H x v vl vu lo hi sl Q I rx hs pl pu h;obtain ⟨a,xs,rfl,hx,q⟩:=h;cases rx;obtain ⟨its,r,ht,hz⟩:=I.list hx;have hlen:=r.length;refine ⟨"list",_,slot_list_getitem.lookup,ht.isList.typeIs,?_⟩
 refine wpAny_getItem_list_slice ht.isList hs pl pu .none (by simp) ?_ (by rw [List.size_toArray] <;> lia)
 rw [ZGz,<-hlen];refine ⟨.ref s.heap.objs.size,_,I.laid (t':=s.toks) (o:=.lst (Js xs lo hi)) (λb ob q=>Heap.get?_push_of_some _ q) (Nat.le_refl _) ?_,rfl,q _ (I.hok.fresh (Nat.le_refl _))⟩;exact ⟨Nat.le_trans (ZCr xs lo hi) hz,_,0,(r.drop (HT.sIx xs.length 0 lo)).take (HT.sIx xs.length xs.length hi - HT.sIx xs.length 0 lo),Heap.get?_push_size _ rfl⟩
noncomputable def Dm:V->Bool
 | .non=>true
 | .bl _=>true
 | .int _=>true
 | .str _=>true
 | _=>false
noncomputable def eqV:V->V->Bool
 | .non,.non=>true
 | .bl a,.bl b=>a == b
 | .bl a,.int b=>(if a then 1 else 0) == b
 | .int a,.bl b=>a == (if b then 1 else 0)
 | .int a,.int b=>a == b
 | .str a,.str b=>a == b
 | _,_=>false
theorem ZBn {A:Around} {y x:V} {u v:Value} (ry:RelV y u) (rx:RelV x v) (fy:Dm y=true) (fx:Dm x=true):SeqAt.EqAt A s u v (eqV y x):=by
 cases y with
 | non=>
  cases ry;cases x with
  | non=>cases rx;exact SeqAt.EqAt.same _
  | bl b=>cases rx;exact SeqAt.EqAt.none_bool b
  | int b=>obtain ⟨t,rfl⟩:=rx;exact SeqAt.EqAt.none_int b t
  | str b=>obtain ⟨t,rfl⟩:=rx;exact SeqAt.EqAt.none_str b t
  | _=>exact absurd (show false=true from fx) Bool.false_ne_true
 | bl a=>
  cases ry;cases x with
  | non=>cases rx;exact SeqAt.EqAt.bool_none a
  | bl b=>cases rx;exact SeqAt.EqAt.bool_bool a b
  | int b=>obtain ⟨t,rfl⟩:=rx;exact SeqAt.EqAt.bool_int a b t
  | str b=>obtain ⟨t,rfl⟩:=rx;exact SeqAt.EqAt.bool_str a b t
  | _=>exact absurd (show false=true from fx) Bool.false_ne_true
 | int a=>
  obtain ⟨t',rfl⟩:=ry;cases x with
  | non=>cases rx;exact SeqAt.EqAt.int_none a t'
  | bl b=>cases rx;exact SeqAt.EqAt.int_bool a t' b
  | int b=>obtain ⟨t,rfl⟩:=rx;exact SeqAt.EqAt.int_int a t' b t
  | str b=>obtain ⟨t,rfl⟩:=rx;exact SeqAt.EqAt.int_str a t' b t
  | _=>exact absurd (show false=true from fx) Bool.false_ne_true
 | str a=>
  obtain ⟨t',rfl⟩:=ry;cases x with
  | non=>cases rx;exact SeqAt.EqAt.str_none a t'
  | bl b=>cases rx;exact SeqAt.EqAt.str_bool a t' b
  | int b=>obtain ⟨t,rfl⟩:=rx;exact SeqAt.EqAt.str_int a t' b t
  | str b=>obtain ⟨t,rfl⟩:=rx;exact SeqAt.EqAt.str_str a t' b t
  | _=>exact absurd (show false=true from fx) Bool.false_ne_true
 | _=>exact absurd (show false=true from fy) Bool.false_ne_true
noncomputable def eqU (x:V) (u:Value):Bool:=match u with
 | .none=>eqV .non x
 | .bool b=>eqV (.bl b) x
 | .int i _=>eqV (.int i) x
 | .str z _=>eqV (.str z) x
 | _=>false
theorem ZBh {x y:V} {u:Value} (r:RelV y u) (f:Dm y=true):eqU x u=eqV y x:=by
 cases y with
 | non=>cases r;rfl
 | bl b=>cases r;rfl
 | int i=>obtain ⟨t,rfl⟩:=r;rfl
 | str z=>obtain ⟨t,rfl⟩:=r;rfl
 | _=>exact absurd (show false=true from f) Bool.false_ne_true
theorem ZAR {x:V}:∀{xs:List V} {us:List Value},Vals xs us->xs.all Dm=true->us.any (eqU x)=xs.any λy=>eqV y x
 | _,_,.nil,_=>rfl
 | y::xs,u::us,.cons r t,f=>by rw [List.all_cons,Bool.and_eq_true] at f;rw [List.any_cons,List.any_cons,ZBh r f.1,ZAR t f.2]
theorem Ws {A:Around} {x:V} {v:Value} (rx:RelV x v) (fx:Dm x=true):∀{xs:List V} {us:List Value},Vals xs us->xs.all Dm=true->∀u∈us,SeqAt.EqAt A s u v (eqU x u)
 | _,_,.nil,_=>λu hu=>by cases hu
 | y::xs,u::us,.cons r t,f=>λu' hu=>by
  rw [List.all_cons,Bool.and_eq_true] at f;rcases List.mem_cons.mp hu with rfl | hu
  ·rw [ZBh r f.1];exact ZBn r rx f.1 fx
  ·exact Ws rx fx t f.2 u' hu
noncomputable def inV (x:V) (xs:List V):Bool:=xs.any λy=>eqV y x
noncomputable def rIn (K:PySem.W.Frag) (neg:Bool):R2:=λx y H Q=>∃p xs,y=.ref p/\(SqL K H p xs∨SqT K H p xs)/\Dm x=true/\xs.all Dm=true/\Q (.bl (if neg then !inV x xs else inV x xs)) H
theorem ZGJ:OpR X (compareOp .NotIn) (rIn X.K true):=by
 intro pins s σ H x y v u Q I rx ry h;obtain ⟨p,xs,rfl,hq,fx,fs,q⟩:=h;cases ry;rcases hq with hq | hq
 ·obtain ⟨its,r,pl,hz⟩:=I.list hq;refine SeqAt.notIn_listAt (eqU x) pl.isList (λw hw=>Ws rx fx r fs w (by simpa using hw)) ⟨.bl _,H,I,rfl,?_⟩;rw [show its.toArray.any (eqU x)=its.any (eqU x) by simp,ZAR r fs];exact q
 ·obtain ⟨its,r,pl,hz⟩:=I.tuple hq;refine SeqAt.notIn_tupleAt (eqU x) pl (λw hw=>Ws rx fx r fs w (by simpa using hw)) ⟨.bl _,H,I,rfl,?_⟩;rw [show its.toArray.any (eqU x)=its.any (eqU x) by simp,ZAR r fs];exact q
theorem ZGH:CallR X (.builtin "len") (λxs H Q=>∃p ys,xs= [.ref p]/\(SqL X.K H p ys∨SqT X.K H p ys)/\Q (.int ys.length) H):=by
 intro pins s σ H xs us Q I r h;obtain ⟨p,ys,rfl,hq,q⟩:=h;obtain ⟨u,rfl,rx⟩:=vals1 r;cases rx;have hn:=line63;rcases hq with hq | hq
 ·obtain ⟨its,r',pl,hz⟩:=I.list hq;have hlen:=r'.length
  exact Calls.call_len_list pl.isList (by simp only [List.size_toArray] <;> lia) ⟨.int ys.length,H,I.tok _,⟨s.toks + 1,by rw [List.size_toArray,hlen]⟩,q⟩
 ·obtain ⟨its,r',pl,hz⟩:=I.tuple hq;have hlen:=r'.length
  exact len_tuple pl (by simp only [List.size_toArray] <;> lia) ⟨.int ys.length,H,I.tok _,⟨s.toks + 1,by rw [List.size_toArray,hlen]⟩,q⟩
theorem ZEa:CallR X (.builtin "len") (λxs H Q=>∃z,xs= [.str z]/\z.length<=sizeLine/\Q (.int z.length) H):=by intro pins s σ H xs us Q I r h;obtain ⟨z,rfl,hz,q⟩:=h;obtain ⟨u,rfl,t,rfl⟩:=vals1 r;have hn:=line63;exact len_str (by lia) ⟨.int z.length,H,I.tok _,⟨_,rfl⟩,q⟩
theorem CallR.or {f:Value} {r r':List V->Hp->VK->Prop} (h:CallR X f r) (h':CallR X f r'):CallR X f (λxs H Q=>r xs H Q∨r' xs H Q):=by
 intro pins s σ H xs us Q I rs q;rcases q with q | q
 ·exact h pins s σ H xs us Q I rs q
 ·exact h' pins s σ H xs us Q I rs q
theorem ZGO:CallR X (.type "list") (λxs H Q=>∃p ys,xs= [.ref p]/\(SqL X.K H p ys∨SqT X.K H p ys)/\∀l,H l=none->Q (.ref l) (upd H l (.lst ys))):=by
 intro pins s σ H xs us Q I r h;obtain ⟨p,ys,rfl,hq,q⟩:=h;obtain ⟨u,rfl,rx⟩:=vals1 r;cases rx;have fin:∀(its:List Value),Vals ys its->ys.length<=sizeLine->∀(h':Heap) (c':Nat),(∀b o',s.heap.get? b=some o'->h'.get? b=some o')->
   h'.get? s.heap.objs.size=some {cls:=.type "list",dict:=none,data:=.seq its.toArray c',slots:= #[]}->EP X pins σ Q (.ref s.heap.objs.size) {s with heap:=h'}:=λits r' hz h' c' kp e=>
  ⟨.ref s.heap.objs.size,_,I.laid (t':=s.toks) kp (Nat.le_refl _) (show ObjOk X.prog X.w _ h' _ (.lst ys) from ⟨hz,its,c',r',e⟩),rfl,q _ (I.hok.fresh (Nat.le_refl _))⟩
 rcases hq with hq | hq
 ·obtain ⟨its,r',pl,hz⟩:=I.list hq;have hlen:=r'.length;obtain ⟨o,ho,hc,n,hd⟩:=pl.isList
  exact call_list_seq p (.inl rfl) ho hc hd (λh' c' kp e=>fin its r' hz h' c' kp e) (by simp only [List.size_toArray] <;> lia)
 ·obtain ⟨its,r',pl,hz⟩:=I.tuple hq;have hlen:=r'.length;obtain ⟨o,ho,hc,n,hd⟩:=pl
  exact call_list_seq p (.inr rfl) ho hc hd (λh' c' kp e=>fin its r' hz h' c' kp e) (by simp only [List.size_toArray] <;> lia)
noncomputable def tyV (K:PySem.W.Frag) (T:String) (x:V) (H:Hp):Prop:=match x with
 | .str _=>T="str"
 | .int _=>T="int"
 | .ref p=>(T="list"/\∃xs,SqL K H p xs)∨(T="tuple"/\∃o,K.lookup p=some o/\o.cls=.type "tuple"/\o.dict=none)∨
   (T="dict"/\((∃kvs,H p=some (.dK kvs))∨∃kvs,H p=some (.dT kvs)))∨(T="set"/\∃S n,H p=some (.set S n))
 | _=>False
theorem ZFc {T:String} {x:V} {v:Value} (I:Inv X pins σ H s) (r:RelV x v) (ty:tyV X.K T x H):
  s.TypeIs v T/\∀a,v=.ref a->∃ob,s.heap.get? a=some ob/\ob.dict=none:=by
 cases x with
 | str z=>
  obtain ⟨t,rfl⟩:=r
  cases (show T="str" from ty)
  exact ⟨typeIs_str s z t,λ_ e=>nomatch e⟩
 | int i=>
  obtain ⟨t,rfl⟩:=r
  cases (show T="int" from ty)
  exact ⟨typeIs_int s i t,λ_ e=>nomatch e⟩
 | ref p=>
  cases r;rcases ty with ⟨rfl,xs,hq⟩ | ⟨rfl,o,hk,hc,hd⟩ | ⟨rfl,hk⟩ | ⟨rfl,S,n,hk⟩
  ·obtain ⟨its,_,pl,_⟩:=I.list hq;refine ⟨pl.isList.typeIs,λa e=> ?_⟩;cases e;obtain ⟨o,n,e,c,hd,_⟩:=pl;exact ⟨o,e,hd⟩
  ·refine ⟨⟨o,I.kIn p o hk,hc⟩,λa e=> ?_⟩;cases e;exact ⟨o,I.kIn _ o hk,hd⟩
  ·have z:∃o,s.heap.get? p=some o/\o.ExactDict:=by
    rcases hk with ⟨kvs,hk⟩ | ⟨kvs,hk⟩
    ·obtain ⟨_,_,_,_,o,_,_,e,ex,_⟩:=I.hok p _ hk;exact ⟨o,e,ex⟩
    ·obtain ⟨_,_,_,_,o,_,_,e,ex,_⟩:=I.hok p _ hk;exact ⟨o,e,ex⟩
   obtain ⟨o,e,ex⟩:=z;refine ⟨⟨o,e,ex.1⟩,λa e2=> ?_⟩;cases e2;exact ⟨o,e,ex.2.1⟩
  ·obtain ⟨o,_,_,_,e,ex,_⟩:=I.hok p _ hk;refine ⟨⟨o,e,ex.1⟩,λa e2=> ?_⟩;cases e2;exact ⟨o,e,ex.2.1⟩
 | _=>exact False.elim ty
noncomputable def tBM (K:PySem.W.Frag) (T:String) (r:V->List V->Hp->VK->Prop) (to:TE) (t:TA):TE:=λσ H Q=>to σ H λx H1=>tyV K T x H1/\t σ H1 λxs H2=>r x xs H2 Q
variable {o e:Expr} {es:List Expr} {to:TE} {t:TA} {name:Str} {apos cpos:Pos} {T id:String} {r:V->List V->Hp->VK->Prop}
theorem ZEp (pa:PlainAttrs T) (slot:Slot T name id) (hty:typeOf (.builtin id)=pure (.type "method_descriptor")) (hm:MtR X id r) (ho:PE X o to) (ha:PA X (e::es) t)
  (hbase:attributeBase o name X.env (eval o X.env)=eval o X.env:=by rfl)
  (hfew:((backTo cpos (starEach (e::es) X.env)).all (λx=> !x.1) && (backToKw cpos (keywordEach [] X.env)).all (λx=>x.1.isSome)
   && decide ((e::es).length + ([]:List Keyword).length + (if ([]:List Keyword).isEmpty then 0 else 1) < 30))=true:=by rfl)
  (hline:(apos.endLine == cpos.line)=true:=by rfl) (hs:starEach (e::es) X.env=(false,eval e X.env)::starEach es X.env:=by rfl) (hplain:(backTo cpos (starEach es X.env)).any (·.1)=false:=by rfl):
  PE X (.Call (.Attribute o name apos) (e::es) [] cpos) (tBM X.K T r to t):=by
 intro pins s σ H Q I h;refine wpAny_Call_method_late hbase hfew hline rfl (thn (ho pins s σ H _ I h) λv s1 ⟨x,H1,I1,r1,ty,q1⟩=> ?_);obtain ⟨h1,h2⟩:=ZFc I1 r1 ty;refine ⟨T,id,pa,slot,hty,h1,h2,?_⟩;have hA:=ha cpos pins s1 σ H1 _ I1 q1;rw [hs] at hA ⊢
 refine Calls.callWith_builtin (by show (false || (backTo cpos (starEach es X.env)).any (·.1))=false;rw [hplain] <;> rfl) (Calls.evalArgs_plain ?_)
 exact thn hA λus s2 ⟨vs,H2,I2,r2,q2⟩=>hm pins s2 σ H2 x vs v us Q I2 r1 r2 q2
end
noncomputable def MtM (X:Cx) (id:String) (r:V->List V->Hp->VK->Prop):Prop:=
 ∀(pins:List (Addr×Obj)) (s:Shared) (σ:St) (H:Hp) (x:V) (xs:List V) (v:Value) (us:List Value) (Q:VK),Inv X pins σ H s->RelV x v->Vals xs us->r x xs H Q->
  wpAny (model X.prog X.w) X.A (call (.builtin id) (v::us)) (EP X pins σ Q) X.xe s
theorem Vals.one:∀{x:V} {us:List Value},Vals [x] us->∃u,us= [u]/\RelV x u
 | _,_,.cons r .nil=>⟨_,rfl,r⟩
section
variable {X:Cx} {pins:List (Addr×Obj)} {σ:St} {H:Hp} {s:Shared} {l b:Addr} {xs ys zs:List V}
theorem Inv.lset {its':List Value} {f:Array Value->Array Value} {t':Nat} (I:Inv X pins σ H s) (hH:H l=some (.lst xs))
  (e:s.heap.get? l=some {cls:=.type "list",data:=.seq its.toArray n}) (hf:f its.toArray=its'.toArray) (hv:Vals ys its') (hz:ys.length<=sizeLine):
  Inv X pins σ (upd H l (.lst ys)) {s with heap:=s.heap.update l (Obj.mapSeq f),toks:=t'}:=by
 have q:=PySem.IsL.update e f;rw [hf] at q;refine I.write (x:=l) (e:=l) (by rw [hH];exact trivial) (.inl rfl) (λb' u hb hu=>(Heap.get?_update_other s.heap (Obj.mapSeq f) (Ne.symm hb)).trans hu) ⟨_,q⟩ ?_;exact ⟨hz,its',_,hv,q⟩
theorem Inv.lnew {t':Nat} (I:Inv X pins σ H s) (hv:Vals ys its) (hz:ys.length<=sizeLine):
  Inv X pins σ (upd H s.heap.objs.size (.lst ys)) {s with heap:=s.heap.push {cls:=.type "list",data:=.seq its.toArray},toks:=t'}:=
 I.laid (λ_ _ q=>Heap.get?_push_of_some _ q) (Nat.le_refl _) ⟨hz,its,0,hv,Heap.get?_push_size _ rfl⟩
theorem Inv.fresh (I:Inv X pins σ H s):H s.heap.objs.size=none:=I.hok.fresh (Nat.le_refl _)
theorem Inv.lstM (I:Inv X pins σ H s) (hH:H l=some (.lst xs)):xs.length<=sizeLine/\∃(its:List Value) (n:Nat),Vals xs its/\xs.length=its.length/\s.heap.get? l=some {cls:=.type "list",data:=.seq its.toArray n}:=by obtain ⟨z,its,n,r,e⟩:=I.hok l _ hH;exact ⟨z,its,n,r,r.length,e⟩
end
section
variable {X:Cx}
noncomputable def ZHZ:V->List V->Hp->VK->Prop:=λx vs H Q=>∃l xs y,x=.ref l/\vs= [y]/\H l=some (.lst xs)/\xs.length < sizeLine/\Q .non (upd H l (.lst (xs++ [y])))
theorem ZEQ:MtM X "list.append" ZHZ:=by
 intro pins s σ H x vs v us Q I rx rv h;obtain ⟨l,xs,y,rfl,rfl,hH,hz,q⟩:=h;cases rx;obtain ⟨u,rfl,ru⟩:=rv.one;obtain ⟨z,its,n,r,hl,e⟩:=I.lstM hH;refine call_meets F.slot_list_append ⟨_,e,rfl⟩ F.entry_list_append (F.args_list_append_2 _ _) (PySem.list_append l its.toArray n u (by rw [List.size_toArray];lia)) ⟨e,?_⟩;refine ⟨.non,_,I.lset (its':=its++ [u]) hH e (by simp) (r.append (.cons ru .nil)) ?_,rfl,q⟩
 rw [List.length_append,List.length_singleton];lia
end
section
variable {prog:Program} {w:World} {A:Around} {E:Value->Shared->Prop} {s:Shared}
end
section
variable {X:Cx}
end
end L2
namespace Att
open PySem PySem.W PySem.Calls PyProof.Rows
variable {h:Heap}
theorem ZHb {P:Params} :∀(ns:List Int) (vs:List Value),WellAll P h vs (ns.map WData.int)->IntsAre vs ns:=by
 intro ns
 induction ns with
 | nil=>
  intro vs w;rw [List.map_nil] at w;cases w;exact .nil
 | cons n ns ih=>
  intro vs w;rw [List.map_cons] at w;cases w with
  | cons a b=>
   cases a;exact .cons _ _ (ih _ b)
theorem ZJP {l:OpenLaw} {n:Nat} (hn:l.most=some n) {P:Params} {args:List WData} {vals:List Value}
  (hpre:l.row.toRowW.claim.pre args=true) (hwl:WellAll P h vals args):
  ∃a vs ns,vals= [Value.ref a]/\args= [WData.list (ns.map WData.int)]/\h.get? a=some {cls:=.type "list",data:=.seq vs.toArray}/\IntsAre vs ns/\ns.length<=n:=by
 have hsh:WShape.hasAll [] args [.list .int]=true:=(pre_splitW hpre).1;have hc:l.pre.holds [] {args:=args}=true:=(pre_splitW hpre).2;obtain ⟨d,r,rfl,h1,h2⟩:=hasAllW_cons hsh;obtain rfl:=hasAllW_nil h2;obtain ⟨xs,rfl,h3⟩:=hasW_list h1;obtain ⟨ns,rfl⟩:=items_int h3;have hlen:ns.length<=n:=by
  unfold OpenLaw.pre at hc;have h4:(WTm.not (.lt (.lit (.int (n:Int))) (.len (.arg 0)))).holds [] {args:= [.list (ns.map .int)]}=true:=by have h4:=(holds_andW hc).1;rw [hn] at h4;exact h4
  have h5:=condW_of h4 (w_not (w_lt w_lit (w_len_list (w_arg rfl))));rw [List.length_map] at h5;refine Nat.le_of_not_lt λq=> ?_
  have q':(n:Int) < ((ns.length:Nat):Int):=by lia
  first
   | (rw [decide_eq_true q'] at h5;exact absurd h5 (by decide))
   | (simp at h5;lia)
 cases hwl with
 | cons w1 w2=>
  cases w2;cases w1 with
  | list ho hall=>exact ⟨_,_,ns,rfl,rfl,ho,ZHb ns _ hall,hlen⟩
theorem ZKc (l:OpenLaw) (args:List WData):l.row.toRowW.claim.post args (.bool true) args=true:=
 postW_of (r:=l.row.toRowW) (X:=(true == true))
  (show WShape.has [] (.bool true) .bool=true by first | rfl | decide | simp [WShape.has,WShape.arms,WShape.armsAll])
  (show (WTm.eq .res (.lit (.bool true))).value [] {args:=args,res:=some (.bool true),after:=args}=some (.bool (true == true)) from w_eq_bool (w_res rfl) w_lit) rfl
theorem ZLK {l:OpenLaw} {n:Nat} {q:Program} {loose:List Str} {XP:(Str->Option Value)->Heap->Prop} {YP:World->Heap->Prop} {d:DefRec}
  (hn:l.most=some n) (hdf:d.params.defaults= [])
  (call:∀(w:World) (s₀ s₁:Shared) (mg mb:Str->Option Value) (fa:Addr) (o:Obj) (pm cd doc:Value) (a:Addr) (vs:List Value) (ns:List Int),
   Ground q loose [] XP w s₀ mg mb s₁.heap->YP w s₁.heap->
   s₁.heap.get? fa=some o->o.data=.func (docDef d.name d.params d.body d.scope pm cd doc)->s₁.heap.CodeRec cd d.name->mg d.name=some (.ref fa)->
   s₁.heap.get? a=some {cls:=.type "list",data:=.seq vs.toArray}->IntsAre vs ns->ns.length<=n->s₁.gens= #[]->
   codeAny (model l.prog w) callerA (.call (.ref fa) ⟨[.ref a],[]⟩) (λr s'=>r=.ok (.ret (.bool true))/\OldK s₁.heap s'.heap/\s'.os=s₁.os/\AllBare s'.gens) s₁):
  WalkO q loose XP YP l.row.toRowW d [] (λf vs=>PySem.call f vs):=by
 intro w s₀ s₁ mg mb G Y fa o pm cd doc dV kV ho hd hcd hD hmg hg args vals as hpre hlay hrd hwl hlo;obtain rfl:dV=.none:=Dflts.none hD hdf;obtain rfl:kV=.none:=Dflts.noKw hD;obtain ⟨a,vs,ns,rfl,rfl,hobj,hints,hlen⟩:=ZJP hn hpre hwl;refine enter_call (codeAny_mono (call w s₀ s₁ mg mb fa o pm cd doc a vs ns G Y ho (fd_plain hd) hcd hmg hobj hints hlen hg) λr s' hq=> ?_);obtain ⟨rfl,h2,h3,h4⟩:=hq
 exact ⟨.inl ⟨.bool true,.bool true,[],rfl,λ_=>rfl,.bool true,ZKc l _,λ_=>⟨List.Pairwise.nil,λ_ hm=>(nomatch hm)⟩⟩,h2,h3,h4⟩
section
variable {prog:Program} {w:World} {A:Around} {E:Value->Shared->Prop} {s:Shared} {K:Frag}
noncomputable def Jc (h:Heap):Heap:={h with objs:= #[]}
theorem Ko (h:Heap) (b:Addr):(Jc h).get? b=none:=by
 cases e:(Jc h).get? b with
 | none=>rfl
 | some o=>exact absurd (Heap.lt_size e) (Nat.not_lt_zero _)
noncomputable def ledger (h:Heap) (L d:Addr):List (Addr×Obj):=(List.range h.objs.size).filterMap λa=>if a=L∨a=d then none else (h.get? a).map λo=>(a,o)
theorem Gj {L d a:Addr} {o:Obj}:(a,o)∈ledger h L d↔a≠L/\a≠d/\h.get? a=some o:=by
 unfold ledger;rw [List.mem_filterMap];constructor
 ·rintro ⟨b,_,e⟩;split at e
  ·cases e
  ·rename_i hb;obtain ⟨o',ho,e'⟩:=Option.map_eq_some_iff.mp e;cases e';exact ⟨λq=>hb (.inl q),λq=>hb (.inr q),ho⟩
 ·rintro ⟨n1,n2,ho⟩;refine ⟨a,List.mem_range.mpr (Heap.lt_size ho),?_⟩
  rw [if_neg (show¬(a=L∨a=d) from λq=>q.elim n1 n2),ho] <;> rfl
theorem ZJH {L:Addr} {m:Str->Option Value} (n:h.Ns L m):Fr (Jc h) L h m:=
 ⟨n,λb o e=>(by rw [Ko] at e;cases e),Nat.zero_le _⟩
end
end Att
namespace L2
open PySem PySem.Spec PyProof.Rows
variable {x qual:Str} {st:Stmt} {f:Addr}
theorem Rq:∀{vs:List Value} {ns:List Int},IntsAre vs ns->Vals (ns.map V.int) vs
 | _,_,.nil=>.nil
 | _,_,.cons n t h=>.cons ⟨t,rfl⟩ (Rq h)
noncomputable def Li (s:Stmt):Arguments:=match s with
 | .FunctionDef _ a _ _ _ _ _ _ _ _=>a
 | _=>{posonlyargs:= [],args:= [],vararg:=none,kwonlyargs:= [],kw_defaults:= [],kwarg:=none,defaults:= []}
noncomputable def H9 (s:Stmt):List Stmt:=match s with
 | .FunctionDef _ _ b _ _ _ _ _ _ _=>b
 | _=> []
noncomputable def Az (s:Stmt):Scope:=match s with
 | .FunctionDef _ _ _ _ _ _ sc _ _ _=>sc
 | _=>{kind:=.function,names:= [],isGenerator:=false,isCoroutine:=false}
noncomputable abbrev CX0:CXT:=λ_ _ _ _ _ _=>False
noncomputable abbrev E0:XK:=λ_ _ _=>False
theorem pass0 {X:Cx}:Passes CX0 X E0:=λ_ _ _ _ _ _ _ h=>h.elim
structure Fun (K:PySem.W.Frag) (x qual:Str) (st:Stmt) (f:Addr) (fd:FuncData):Prop where
 ex:∃(oc:Value) (od:Option Addr) (kV doc pm:Value) (an:Option Addr) (cdv ct:Value) (osl:Array (Option Value)),
  fd=PySem.W.fnOf x qual (Li st) (H9 st) (Az st) .none kV doc pm an cdv ct/\K.lookup f=some ⟨oc,od,.func fd,osl⟩/\PySem.W.codeIn K cdv qual=true
 kp:PySem.W.keepIn K (.ref f)=true
section
variable {P:Program} {w:World} {K:PySem.W.Frag} {mg:Str->Option Value} {base:Heap}
theorem Fun.ok {fd:FuncData} {N ps:List Str} {k:Nat} {sp:Sp} (F:Fun K x qual st f fd) (S:FnScope N ps (Az st)) (len:∀vs H Q E,sp vs H Q E->vs.length=ps.length)
  (hbody:∀(cdv:Value) (A:Around) (outer:List Env) (s:Shared) (H:Hp) (vs:List V) (Q:VK) (E:XK),Room k (A.deeper (envOfC qual (Az st) s.heap.objs.size f cdv))->sp vs H Q E->
   ∃t,PSs (Jv CX0 P w K mg base N qual (Az st) f cdv A outer s H E).nox (H9 st) t/\t {nx:=λ_ H'=>Q .non H',rt:=Q} (start N vs) H):FnOk P w K mg base CX0 (k + 1) f fd ps sp:=by
 obtain ⟨oc,od,kV,doc,pm,an,cdv,ct,osl,rfl,lk,hcd⟩:=F.ex;refine ZA2 lk hcd S len λA outer s H vs Q E hr hsp=> ?_
 obtain ⟨t,h,q⟩:=hbody cdv A outer s H vs Q E hr hsp;exact ⟨t,h.nox,q⟩
theorem Fun.binds {fd:FuncData} {ps:List Str} (F:Fun K x qual st f fd)
  (h:∀(kV doc pm:Value) (an:Option Addr) (cdv ct:Value) (us:List Value),us.length=ps.length->bindArgs (PySem.W.fnOf x qual (Li st) (H9 st) (Az st) .none kV doc pm an cdv ct) ⟨us,[]⟩=pure (ps.zip us)):Binds K fd ps []:=by
 obtain ⟨oc,od,kV,doc,pm,an,cdv,ct,osl,rfl,lk,hcd⟩:=F.ex;exact .all (h kV doc pm an cdv ct)
theorem Z8 {oc:Value} {od an:Option Addr} {osl:Array (Option Value)} {kV doc pm cdv ct:Value} (l:K.lookup f=some ⟨oc,od,.func (PySem.W.fnOf x qual (Li st) (H9 st) (Az st) .none kV doc pm an cdv ct),osl⟩)
  (c:PySem.W.codeIn K cdv qual=true) (k:PySem.W.keepIn K (.ref f)=true):Fun K x qual st f (PySem.W.fnOf x qual (Li st) (H9 st) (Az st) .none kV doc pm an cdv ct):=⟨⟨oc,od,kV,doc,pm,an,cdv,ct,osl,rfl,l,c⟩,k⟩
end
section
variable {X:Cx}
end
section
variable {κ:Type} [DecidableEq κ]
end
section
variable {P:Program} {w:World} {H:Hp} {h:Heap} {a:Addr}
end
section
variable {X:Cx} {pins:List (Addr×Obj)} {σ:St} {H:Hp} {s:Shared} {a:Addr} {y v:V} {u r:Value} {o:Option V} {A:Around} {E:Value->Shared->Prop}
end
section
variable {X:Cx} {pins:List (Addr×Obj)} {σ:St} {H:Hp} {s:Shared} {a:Addr} {kvs:List (Key×V)} {k:Key} {u:Value} {A:Around} {E:Value->Shared->Prop}
end
section
variable {X:Cx} {o i e value:Expr} {pos pos' tpos:Pos} {td ty tv:TE}
end
section
variable {X:Cx} {pos:Pos}
end
section
variable {X:Cx} {pins:List (Addr×Obj)} {σ:St} {H:Hp} {s:Shared} {a:Addr} {y d:V} {u r:Value} {o:Option V} {A:Around} {E:Value->Shared->Prop}
end
section
variable {X:Cx} {o e f:Expr} {apos cpos:Pos} {td ty tx:TE}
end
section
variable {X:Cx} {pins:List (Addr×Obj)} {σ:St} {H:Hp} {s:Shared} {a:Addr} {kvs:List (Key×V)} {A:Around} {E:Value->Shared->Prop}
end
section
variable {X:Cx} {pins:List (Addr×Obj)} {σ:St} {H:Hp} {s:Shared} {a:Addr} {y:V} {u:Value} {A:Around} {E:Value->Shared->Prop}
end
section
variable {X:Cx}
end
end L2
namespace L2
section
variable {κ:Type} [DecidableEq κ]
end
end L2
namespace DL
open PySem PySem.Spec L2
open PyProof.Rows hiding St
variable {α:Type} {K:PySem.W.Frag} {H:Hp} {p:Addr} {v y:V} {vs:List V} {σ:St} {E:XK} {Q:VK} {W:Ends} {e tg:Expr} {ho:HO} {q:Option HO} {i n k nt:Nat} {x:Str} {u:Value} {op:CmpOp} {A:Around} {s:Shared} {P:Program} {w:World} {scope:Scope} {env:Env} {X:Cx}
inductive D where
 | non | bl (b:Bool) | int (i:Int) | str (x:Str) | ty (n:String)
 | tup (xs:List D)
 | fl (xs:List D)
 | ref (i:Nat)
variable {d:D} {ds xs:List D}
inductive DO where
 | lst (xs:List D)
 | dct (kvs:List (Key×D))
 | ins (c:Str) (fs:List (Str×D))
 | tab (c m:Str)
 | gone
variable {o:DO}
noncomputable abbrev DH:=List DO
variable {G G':DH}
noncomputable abbrev DSt:=List (Option D)
variable {S:DSt}
structure Xn where
 cls:Str
 fs:List (Str×D)
inductive R (α:Type) where
 | ok (a:α) (G:DH)
 | err (x:Xn) (G:DH)
 | bad
variable {r:R D} {f:D->D->DH->R D}
noncomputable def R.bind {α β:Type} (r:R α) (f:α->DH->R β):R β:=match r with
 | .ok a G=>f a G
 | .err x G=>.err x G
 | .bad=>.bad
@[simp] theorem R.Jr {β:Type} (a:α) (G:DH) (f:α->DH->R β):(R.ok a G).bind f=f a G:=id rfl
inductive SR where
 | nx (S:DSt) (G:DH)
 | rt (d:D) (G:DH)
 | bk (S:DSt) (G:DH)
 | ct (S:DSt) (G:DH)
 | err (x:Xn) (G:DH)
 | bad
noncomputable abbrev DE:=DSt->DH->R D
variable {t te:DE}
noncomputable abbrev DB:=DSt->DH->R Bool
variable {c:DB}
noncomputable abbrev DA:=DSt->DH->R (List D)
noncomputable abbrev DS:=DSt->DH->SR
noncomputable def FzL (K:PySem.W.Frag) (H:Hp) (a:Addr) (xs:List V):Prop:=
 (∃o,H a=some (.frz o (.lst xs)))∨
  ∃(o:Obj) (its:Array Value) (n:Nat),K.lookup a=some o/\o.cls=.type "list"/\o.dict=none/\o.data=.seq its n/\its.size<=sizeLine/\Vals xs its.toList
theorem FzL.sq {a:Addr} {xs:List V} (h:FzL K H a xs):SqL K H a xs:=by
 rcases h with ⟨o,h⟩ | h
 ·exact .inl (.inr ⟨o,h⟩)
 ·exact .inr h
structure Wd where
 K:PySem.W.Frag
 n:Nat
 m:Nat->Addr
 H:Hp
variable {a b:Wd}
mutual
noncomputable def Rep (a:Wd):D->V->Prop
 | .non,v=>v=.non
 | .bl b,v=>v=.bl b
 | .int i,v=>v=.int i
 | .str x,v=>v=.str x
 | .ty n,v=>v=.ty n
 | .tup ds,v=>∃p vs,v=.ref p/\SqT a.K a.H p vs/\Reps a ds vs
 | .fl ds,v=>∃p vs,v=.ref p/\FzL a.K a.H p vs/\Reps a ds vs
 | .ref i,v=>i < a.n/\v=.ref (a.m i)
noncomputable def Reps (a:Wd):List D->List V->Prop
 | [],vs=>vs= []
 | d::ds,vs=>∃v r,vs=v::r/\Rep a d v/\Reps a ds r
end
noncomputable def Cz:Str:="Sending.send_by.<locals>.<lambda>"
noncomputable def TabOk (H:Hp) (P:Addr):Prop:=
 ∃ps:Array Value,H P=some (.tbl ps)/\TriplesOk ps.toList/\∀pos cv,codeAmong pos ps.toList=some cv->∃(c:Addr) (oc:Obj) (vs:Array Value) (t:Tok),cv=.ref c/\H c=some (.frz oc (.own 0))/\oc.data=.fields vs/\vs[1]? =some (.str Cz t)
theorem TabOk.mono {H':Hp} {P:Addr} (h:TabOk H P) (ht:∀p ps,H p=some (.tbl ps)->H' p=some (.tbl ps)) (hf:∀p o u,H p=some (.frz o u)->H' p=some (.frz o u)):TabOk H' P:=by obtain ⟨ps,e,t,k⟩:=h;refine ⟨ps,ht _ _ e,t,λpos cv hc=> ?_⟩;obtain ⟨c,oc,vs,tk,e1,e2,e3,e4⟩:=k pos cv hc;exact ⟨c,oc,vs,tk,e1,hf _ _ _ e2,e3,e4⟩
noncomputable def TabAt (K:PySem.W.Frag) (C m:Str) (c P:Addr):Prop:=
 ∃(Ca f:Addr) (oc:Value) (od:Option Addr) (fd:FuncData) (sl:Array (Option Value)),PySem.W.nsIn K mainGlobals C=some (some (.ref Ca))/\PySem.W.findIn K (.ref Ca) m=some (some (.ref f))/\K.lookup f=some ⟨oc,od,.func fd,sl⟩/\fd.code=.ref c/\PySem.W.codeHdIn K c P=true
structure Ext (a b:Wd):Prop where
 k:b.K=a.K
 n:a.n<=b.n
 m:∀i,i < a.n->b.m i=a.m i
 tup:∀p xs,a.H p=some (.tup xs)->b.H p=some (.tup xs)
 frz:∀p o u,a.H p=some (.frz o u)->b.H p=some (.frz o u)
 tab:∀p,TabOk a.H p->TabOk b.H p
theorem Ext.refl (a:Wd):Ext a a:=⟨rfl,Nat.le_refl _,λ_ _=>rfl,λ_ _ h=>h,λ_ _ _ h=>h,λ_ h=>h⟩
theorem Ext.trans {c:Wd} (x:Ext a b) (y:Ext b c):Ext a c:=
 ⟨y.k.trans x.k,Nat.le_trans x.n y.n,λi h=>(y.m i (Nat.lt_of_lt_of_le h x.n)).trans (x.m i h),λp xs h=>y.tup p xs (x.tup p xs h),λp o u h=>y.frz p o u (x.frz p o u h),λp h=>y.tab p (x.tab p h)⟩
theorem Ext.sqT (x:Ext a b) {xs:List V} (h:SqT a.K a.H p xs):SqT b.K b.H p xs:=by
 rcases h with (h | ⟨o,h⟩) | h
 ·exact .inl (.inl (x.tup _ _ h))
 ·exact .inl (.inr ⟨o,x.frz _ _ _ h⟩)
 ·exact .inr (by rw [x.k];exact h)
theorem Ext.fzL (x:Ext a b) {xs:List V} (h:FzL a.K a.H p xs):FzL b.K b.H p xs:=by
 rcases h with ⟨o,h⟩ | h
 ·exact .inl ⟨o,x.frz _ _ _ h⟩
 ·exact .inr (by rw [x.k];exact h)
mutual
theorem Rep.mono (x:Ext a b):∀{d:D} {v:V},Rep a d v->Rep b d v
 | .non,_,h=>h
 | .bl _,_,h=>h
 | .int _,_,h=>h
 | .str _,_,h=>h
 | .ty _,_,h=>h
 | .tup ds,v,h=>by obtain ⟨p,vs,e,q,r⟩:=h;exact ⟨p,vs,e,x.sqT q,Reps.mono x r⟩
 | .fl ds,v,h=>by obtain ⟨p,vs,e,q,r⟩:=h;exact ⟨p,vs,e,x.fzL q,Reps.mono x r⟩
 | .ref i,v,h=>by obtain ⟨l,e⟩:=h;exact ⟨Nat.lt_of_lt_of_le l x.n,by rw [x.m i l];exact e⟩
theorem Reps.mono (x:Ext a b):∀{ds:List D} {vs:List V},Reps a ds vs->Reps b ds vs
 | [],_,h=>h
 | d::ds,vs,h=>by obtain ⟨v,r,e,h1,h2⟩:=h;exact ⟨v,r,e,Rep.mono x h1,Reps.mono x h2⟩
end
theorem Reps.length:∀{ds:List D} {vs:List V},Reps a ds vs->ds.length=vs.length
 | [],vs,h=>by cases (show vs= [] from h);rfl
 | d::ds,vs,h=>by obtain ⟨v,r,e,h1,h2⟩:=h;subst e;show ds.length + 1=r.length + 1;rw [Reps.length h2]
theorem Reps.get:∀{ds:List D} {vs:List V} {i:Nat} {d:D},Reps a ds vs->ds[i]? =some d->∃v,vs[i]? =some v/\Rep a d v
 | [],vs,_,_,h,e=>by simp at e
 | d::ds,vs,0,d',h,e=>by obtain ⟨v,r,e1,h1,h2⟩:=h;subst e1;simp at e;subst e;exact ⟨v,rfl,h1⟩
 | d::ds,vs,i + 1,d',h,e=>by obtain ⟨v,r,e1,h1,h2⟩:=h;subst e1;obtain ⟨w,e2,h3⟩:=Reps.get (i:=i) (d:=d') h2 (by simpa using e);exact ⟨w,by simpa using e2,h3⟩
theorem Reps.get':∀{ds:List D} {vs:List V} {i:Nat} {v:V},Reps a ds vs->vs[i]? =some v->∃d,ds[i]? =some d/\Rep a d v
 | [],vs,_,_,h,e=>by cases (show vs= [] from h);simp at e
 | d::ds,vs,0,v',h,e=>by obtain ⟨v,r,e1,h1,h2⟩:=h;subst e1;simp at e;subst e;exact ⟨d,rfl,h1⟩
 | d::ds,vs,i + 1,v',h,e=>by obtain ⟨v,r,e1,h1,h2⟩:=h;subst e1;obtain ⟨w,e2,h3⟩:=Reps.get' (i:=i) (v:=v') h2 (by simpa using e);exact ⟨w,by simpa using e2,h3⟩
theorem Reps.append:∀{ds es:List D} {vs us:List V},Reps a ds vs->Reps a es us->Reps a (ds++es) (vs++us)
 | [],_,vs,_,h,h'=>by cases (show vs= [] from h);exact h'
 | d::ds,es,vs,us,h,h'=>by obtain ⟨v,r,e1,h1,h2⟩:=h;subst e1;exact ⟨v,r++us,rfl,h1,Reps.append h2 h'⟩
theorem Reps.cons (h:Rep a d v) (r:Reps a ds vs):Reps a (d::ds) (v::vs):=⟨v,vs,rfl,h,r⟩
theorem Reps.nil:Reps a [] []:=rfl
theorem Reps.set (h:Rep a d v):∀{ds:List D} {vs:List V} (i:Nat),Reps a ds vs->Reps a (ds.set i d) (vs.set i v)
 | [],vs,_,r=>by cases (show vs= [] from r);exact rfl
 | d'::ds,vs,0,r=>by obtain ⟨v',r',e1,h1,h2⟩:=r;subst e1;exact ⟨v,r',rfl,h,h2⟩
 | d'::ds,vs,i + 1,r=>by obtain ⟨v',r',e1,h1,h2⟩:=r;subst e1;exact ⟨v',r'.set i v,rfl,h1,Reps.set h i h2⟩
theorem Reps.take:∀{ds:List D} {vs:List V} (i:Nat),Reps a ds vs->Reps a (ds.take i) (vs.take i)
 | _,_,0,_=>rfl
 | [],vs,_ + 1,r=>by cases (show vs= [] from r);exact rfl
 | d'::ds,vs,i + 1,r=>by obtain ⟨v',r',e1,h1,h2⟩:=r;subst e1;exact ⟨v',r'.take i,rfl,h1,Reps.take i h2⟩
theorem Reps.drop:∀{ds:List D} {vs:List V} (i:Nat),Reps a ds vs->Reps a (ds.drop i) (vs.drop i)
 | _,_,0,r=>r
 | [],vs,_ + 1,r=>by cases (show vs= [] from r);exact rfl
 | d'::ds,vs,i + 1,r=>by obtain ⟨v',r',e1,h1,h2⟩:=r;subst e1;exact Reps.drop i h2
theorem Reps.ints:∀(ns:List Int),Reps a (ns.map D.int) (ns.map V.int)
 | []=>rfl
 | n::ns=>⟨.int n,ns.map V.int,rfl,rfl,Reps.ints ns⟩
noncomputable def RepKV (a:Wd) (kvs:List (Key×D)) (us:List (Key×V)):Prop:=kvs.map (·.1)=us.map (·.1)/\Reps a (kvs.map (·.2)) (us.map (·.2))
noncomputable def RepF (a:Wd) (fs:List (Str×D)) (us:List (Str×V)):Prop:=fs.map (·.1)=us.map (·.1)/\Reps a (fs.map (·.2)) (us.map (·.2))
noncomputable def ORep (a:Wd):DO->Option HO->Prop
 | .lst ds,o=>∃vs,o=some (.lst vs)/\Reps a ds vs
 | .dct kvs,o=>∃us,o=some (.dK us)/\RepKV a kvs us
 | .ins c fs,o=>∃C dx us,PySem.W.nsIn a.K mainGlobals c=some (some (.ref C))/\o=some (.ins C dx us)/\RepF a fs us
 | .tab C m,_=>∃c P,TabAt a.K C m c P/\TabOk a.H P
 | .gone,_=>True
structure Sim (a:Wd) (G:DH):Prop where
 len:G.length=a.n
 inj:∀i j,i < a.n->j < a.n->a.m i=a.m j->i=j
 obj:∀(i:Nat) (o:DO),G[i]? =some o->ORep a o (a.H (a.m i))
 tr:∀i,i < a.n->a.H (a.m i)≠none
structure RepS (a:Wd) (S:DSt) (σ:St):Prop where
 len:S.length=σ.length
 get:∀(i:Nat) (d:D),S[i]? =some (some d)->∃v,σ[i]? =some (some v)/\Rep a d v
theorem RepS.mono (x:Ext a b) (r:RepS a S σ):RepS b S σ:=⟨r.len,λi d h=>let ⟨v,e,q⟩:=r.get i d h;⟨v,e,q.mono x⟩⟩
theorem RepS.set (r:RepS a S σ) (i:Nat) (h:Rep a d v):RepS a (S.set i (some d)) (σ.set i (some v)):=by
 refine ⟨by simpa using r.len,λj e he=> ?_⟩;rw [List.getElem?_set] at he ⊢;by_cases hij:i=j
 ·subst hij;rw [if_pos rfl] at he ⊢;by_cases hl:i < S.length
  ·rw [if_pos hl] at he;have e1:d=e:=by simpa using he
   subst e1;rw [if_pos (by rw [<-r.len];exact hl)];exact ⟨v,rfl,h⟩
  ·rw [if_neg hl] at he;cases he
 ·rw [if_neg hij] at he ⊢;exact r.get j e he
noncomputable def XOk (E:XK) (a:Wd) (x:Xn) (G:DH):Prop:=False
noncomputable def out (E:XK) (a:Wd) (r:R D) (Q:VK):Prop:=match r with
 | .ok d G=>∀(b:Wd) (v:V),Ext a b->Sim b G->Rep b d v->Q v b.H
 | .err x G=>XOk E a x G
 | .bad=>False
noncomputable def Ei (E:XK) (a:Wd) (r:R Bool) (Q:Bool->Hp->Prop):Prop:=match r with
 | .ok k G=>∀(b:Wd),Ext a b->Sim b G->Q k b.H
 | .err x G=>XOk E a x G
 | .bad=>False
noncomputable def Bj (E:XK) (a:Wd) (r:R (List D)) (Q:List V->Hp->Prop):Prop:=match r with
 | .ok ds G=>∀(b:Wd) (vs:List V),Ext a b->Sim b G->Reps b ds vs->Q vs b.H
 | .err x G=>XOk E a x G
 | .bad=>False
noncomputable def Bp (E:XK) (a:Wd) (r:SR) (W:Ends):Prop:=match r with
 | .nx S G=>∀(b:Wd) (σ:St),Ext a b->Sim b G->RepS b S σ->W.nx σ b.H
 | .bk S G=>∀(b:Wd) (σ:St),Ext a b->Sim b G->RepS b S σ->W.bk σ b.H
 | .ct S G=>∀(b:Wd) (σ:St),Ext a b->Sim b G->RepS b S σ->W.ct σ b.H
 | .rt d G=>∀(b:Wd) (v:V),Ext a b->Sim b G->Rep b d v->W.rt v b.H
 | .err x G=>XOk E a x G
 | .bad=>False
theorem XOk.mono (x:Ext a b) {e:Xn} (h:XOk E a e G):XOk E b e G:=h
theorem out.mono (x:Ext a b) (h:out E a r Q):out E b r Q:=by
 cases r with
 | ok d G=>exact λc v y s q=>h c v (x.trans y) s q
 | err e G=>exact XOk.mono (E:=E) (e:=e) (G:=G) x h
 | bad=>exact h
theorem Ei.mono (x:Ext a b) {r:R Bool} {Q:Bool->Hp->Prop} (h:Ei E a r Q):Ei E b r Q:=by
 cases r with
 | ok d G=>exact λc y s=>h c (x.trans y) s
 | err e G=>exact XOk.mono (E:=E) (e:=e) (G:=G) x h
 | bad=>exact h
theorem Bj.mono (x:Ext a b) {r:R (List D)} {Q:List V->Hp->Prop} (h:Bj E a r Q):Bj E b r Q:=by
 cases r with
 | ok d G=>exact λc vs y s q=>h c vs (x.trans y) s q
 | err e G=>exact XOk.mono (E:=E) (e:=e) (G:=G) x h
 | bad=>exact h
theorem Bp.mono (x:Ext a b) {r:SR} (h:Bp E a r W):Bp E b r W:=by
 cases r with
 | nx d G=>exact λc vs y s q=>h c vs (x.trans y) s q
 | bk d G=>exact λc vs y s q=>h c vs (x.trans y) s q
 | ct d G=>exact λc vs y s q=>h c vs (x.trans y) s q
 | rt d G=>exact λc vs y s q=>h c vs (x.trans y) s q
 | err e G=>exact XOk.mono (E:=E) (e:=e) (G:=G) x h
 | bad=>exact h
noncomputable def lE (K:PySem.W.Frag) (E:XK) (t:DE):TE:=λσ H Q=>∃(a:Wd) (S:DSt) (G:DH),a.K=K/\a.H=H/\Sim a G/\RepS a S σ/\out E a (t S G) Q
noncomputable def lB (K:PySem.W.Frag) (E:XK) (t:DB):TT:=λσ H Q=>∃(a:Wd) (S:DSt) (G:DH),a.K=K/\a.H=H/\Sim a G/\RepS a S σ/\Ei E a (t S G) Q
noncomputable def lA (K:PySem.W.Frag) (E:XK) (t:DA):TA:=λσ H Q=>∃(a:Wd) (S:DSt) (G:DH),a.K=K/\a.H=H/\Sim a G/\RepS a S σ/\Bj E a (t S G) Q
noncomputable def lS (K:PySem.W.Frag) (E:XK) (t:DS):TS:=λW σ H=>∃(a:Wd) (S:DSt) (G:DH),a.K=K/\a.H=H/\Sim a G/\RepS a S σ/\Bp E a (t S G) W
noncomputable def lR2 (K:PySem.W.Frag) (E:XK) (f:D->D->DH->R D):R2:=λx y H Q=>∃(a:Wd) (G:DH) (d e:D),a.K=K/\a.H=H/\Sim a G/\Rep a d x/\Rep a e y/\out E a (f d e G) Q
noncomputable def lR1 (K:PySem.W.Frag) (E:XK) (f:D->DH->R D):V->Hp->VK->Prop:=λx H Q=>∃(a:Wd) (G:DH) (d:D),a.K=K/\a.H=H/\Sim a G/\Rep a d x/\out E a (f d G) Q
noncomputable def lRn (K:PySem.W.Frag) (E:XK) (f:List D->DH->R D):List V->Hp->VK->Prop:=λxs H Q=>∃(a:Wd) (G:DH) (ds:List D),a.K=K/\a.H=H/\Sim a G/\Reps a ds xs/\out E a (f ds G) Q
noncomputable def lF (K:PySem.W.Frag) (f:List D->DH->R D):Sp:=λxs H Q E=>∃(a:Wd) (G:DH) (ds:List D),a.K=K/\a.H=H/\Sim a G/\Reps a ds xs/\out E a (f ds G) Q
section
variable {X:Cx} {E:XK}
noncomputable def QE (X:Cx) (E:XK) (e:Expr) (t:DE):Prop:=PE X e (lE X.K E t)
noncomputable def QT (X:Cx) (E:XK) (e:Expr) (t:DB):Prop:=PT X e (lB X.K E t)
noncomputable def QA (X:Cx) (E:XK) (es:List Expr) (t:DA):Prop:=PA X es (lA X.K E t)
noncomputable def QS (X:Cx) (E:XK) (st:Stmt) (t:DS):Prop:=PS X st (lS X.K E t)
noncomputable def QSs (X:Cx) (E:XK) (st:List Stmt) (t:DS):Prop:=PSs X st (lS X.K E t)
theorem _root_.L2.PE.mono {t t':TE} (h:PE X e t) (w:∀σ H Q,t' σ H Q->t σ H Q):PE X e t':=λpins s σ H Q I q=>h pins s σ H Q I (w σ H Q q)
theorem _root_.L2.PT.mono {t t':TT} (h:PT X e t) (w:∀σ H Q,t' σ H Q->t σ H Q):PT X e t':=λpins s σ H Q I q=>h pins s σ H Q I (w σ H Q q)
theorem _root_.L2.PA.mono {e:List Expr} {t t':TA} (h:PA X e t) (w:∀σ H Q,t' σ H Q->t σ H Q):PA X e t':=λpos pins s σ H Q I q=>h pos pins s σ H Q I (w σ H Q q)
theorem _root_.L2.PS.mono {e:Stmt} {t t':TS} (h:PS X e t) (w:∀W σ H,t' W σ H->t W σ H):PS X e t':=λpins s σ H W I q=>h pins s σ H W I (w W σ H q)
theorem _root_.L2.PSs.mono {e:List Stmt} {t t':TS} (h:PSs X e t) (w:∀W σ H,t' W σ H->t W σ H):PSs X e t':=λpins s σ H W I q=>h pins s σ H W I (w W σ H q)
theorem _root_.L2.OpR.mono {f:Value->Value->Sem Value} {r r':R2} (h:OpR X f r) (w:∀x y H Q,r' x y H Q->r x y H Q):OpR X f r':=λpins s σ H x y v u Q I rx ry q=>h pins s σ H x y v u Q I rx ry (w _ _ _ _ q)
end
theorem Ec {f:D->DH->R D} (h:out E a (r.bind f) Q):
  out E a r (λv H=>∃(b:Wd) (d:D) (G:DH),b.H=H/\Ext a b/\Sim b G/\Rep b d v/\r=.ok d G/\out E b (f d G) Q):=by
 cases r with
 | ok d G=>exact λb v x s q=>⟨b,d,G,rfl,x,s,q,rfl,out.mono x h⟩
 | err e G=>exact h
 | bad=>exact h
theorem Ka {r:R (List D)} {f:List D->DH->R D} (h:out E a (r.bind f) Q):
  Bj E a r (λvs H=>∃(b:Wd) (ds:List D) (G:DH),b.H=H/\Ext a b/\Sim b G/\Reps b ds vs/\r=.ok ds G/\out E b (f ds G) Q):=by
 cases r with
 | ok d G=>exact λb v x s q=>⟨b,d,G,rfl,x,s,q,rfl,out.mono x h⟩
 | err e G=>exact h
 | bad=>exact h
theorem ZAh {r:R Bool} {f:Bool->DH->R D} (h:out E a (r.bind f) Q):
  Ei E a r (λk H=>∃(b:Wd) (G:DH),b.H=H/\Ext a b/\Sim b G/\r=.ok k G/\out E b (f k G) Q):=by
 cases r with
 | ok d G=>exact λb x s=>⟨b,G,rfl,x,s,rfl,out.mono x h⟩
 | err e G=>exact h
 | bad=>exact h
theorem ZER {f:D->DH->R Bool} {Q:Bool->Hp->Prop} (h:Ei E a (r.bind f) Q):
  out E a r (λv H=>∃(b:Wd) (d:D) (G:DH),b.H=H/\Ext a b/\Sim b G/\Rep b d v/\r=.ok d G/\Ei E b (f d G) Q):=by
 cases r with
 | ok d G=>exact λb v x s q=>⟨b,d,G,rfl,x,s,q,rfl,Ei.mono x h⟩
 | err e G=>exact h
 | bad=>exact h
theorem Zo {r:R Bool} {f:Bool->DH->R Bool} {Q:Bool->Hp->Prop} (h:Ei E a (r.bind f) Q):
  Ei E a r (λk H=>∃(b:Wd) (G:DH),b.H=H/\Ext a b/\Sim b G/\r=.ok k G/\Ei E b (f k G) Q):=by
 cases r with
 | ok d G=>exact λb x s=>⟨b,G,rfl,x,s,rfl,Ei.mono x h⟩
 | err e G=>exact h
 | bad=>exact h
theorem ZHP {f:D->DH->R (List D)} {Q:List V->Hp->Prop} (h:Bj E a (r.bind f) Q):
  out E a r (λv H=>∃(b:Wd) (d:D) (G:DH),b.H=H/\Ext a b/\Sim b G/\Rep b d v/\r=.ok d G/\Bj E b (f d G) Q):=by
 cases r with
 | ok d G=>exact λb v x s q=>⟨b,d,G,rfl,x,s,q,rfl,Bj.mono x h⟩
 | err e G=>exact h
 | bad=>exact h
theorem ZIZ {r:R (List D)} {f:List D->DH->R (List D)} {Q:List V->Hp->Prop} (h:Bj E a (r.bind f) Q):
  Bj E a r (λvs H=>∃(b:Wd) (ds:List D) (G:DH),b.H=H/\Ext a b/\Sim b G/\Reps b ds vs/\r=.ok ds G/\Bj E b (f ds G) Q):=by
 cases r with
 | ok d G=>exact λb v x s q=>⟨b,d,G,rfl,x,s,q,rfl,Bj.mono x h⟩
 | err e G=>exact h
 | bad=>exact h
noncomputable def R.toS {α:Type} (r:R α) (f:α->DH->SR):SR:=match r with
 | .ok a G=>f a G
 | .err x G=>.err x G
 | .bad=>.bad
@[simp] theorem R.Dp (a:α) (G:DH) (f:α->DH->SR):(R.ok a G).toS f=f a G:=id rfl
theorem Hg {f:D->DH->SR} (h:Bp E a (r.toS f) W):
  out E a r (λv H=>∃(b:Wd) (d:D) (G:DH),b.H=H/\Ext a b/\Sim b G/\Rep b d v/\r=.ok d G/\Bp E b (f d G) W):=by
 cases r with
 | ok d G=>exact λb v x s q=>⟨b,d,G,rfl,x,s,q,rfl,Bp.mono x h⟩
 | err e G=>exact h
 | bad=>exact h
theorem ZCm {r:R Bool} {f:Bool->DH->SR} (h:Bp E a (r.toS f) W):
  Ei E a r (λk H=>∃(b:Wd) (G:DH),b.H=H/\Ext a b/\Sim b G/\r=.ok k G/\Bp E b (f k G) W):=by
 cases r with
 | ok d G=>exact λb x s=>⟨b,G,rfl,x,s,rfl,Bp.mono x h⟩
 | err e G=>exact h
 | bad=>exact h
section
theorem out.imp {Q':VK} (h:out E a r Q) (w:∀v H,Q v H->Q' v H):out E a r Q':=by
 cases r with
 | ok d G=>exact λb v x s q=>w _ _ (h b v x s q)
 | err e G=>exact h
 | bad=>exact h
theorem Bj.imp {r:R (List D)} {Q Q':List V->Hp->Prop} (h:Bj E a r Q) (w:∀v H,Q v H->Q' v H):Bj E a r Q':=by
 cases r with
 | ok d G=>exact λb v x s q=>w _ _ (h b v x s q)
 | err e G=>exact h
 | bad=>exact h
theorem Ei.imp {r:R Bool} {Q Q':Bool->Hp->Prop} (h:Ei E a r Q) (w:∀v H,Q v H->Q' v H):Ei E a r Q':=by
 cases r with
 | ok d G=>exact λb x s=>w _ _ (h b x s)
 | err e G=>exact h
 | bad=>exact h
noncomputable def Wd.push (a:Wd) (p:Addr) (ho:HO):Wd:=⟨a.K,a.n + 1,λk=>if k=a.n then p else a.m k,upd a.H p ho⟩
noncomputable def Wd.put (a:Wd) (p:Addr) (ho:HO):Wd:={a with H:=upd a.H p ho}
theorem Ext.put (h:a.H p=none):Ext a (a.put p ho):=
 ⟨rfl,Nat.le_refl _,λ_ _=>rfl,λq xs e=>by show upd a.H p ho q=_;rw [Ao (Ft e h)];exact e,λq o u e=>by show upd a.H p ho q=_;rw [Ao (Ft e h)];exact e,λ_ t=>t.mono (λq ps e=>by show upd a.H p ho q=_;rw [Ao (Ft e h)];exact e) (λq o u e=>by show upd a.H p ho q=_;rw [Ao (Ft e h)];exact e)⟩
theorem Ext.push (h:a.H p=none):Ext a (a.push p ho):=
 ⟨rfl,Nat.le_succ _,λi hi=>by show (if i=a.n then p else a.m i)=a.m i;rw [if_neg (Nat.ne_of_lt hi)],λq xs e=>by show upd a.H p ho q=_;rw [Ao (Ft e h)];exact e,λq o u e=>by show upd a.H p ho q=_;rw [Ao (Ft e h)];exact e,λ_ t=>t.mono (λq ps e=>by show upd a.H p ho q=_;rw [Ao (Ft e h)];exact e) (λq o u e=>by show upd a.H p ho q=_;rw [Ao (Ft e h)];exact e)⟩
theorem ORep.mono (x:Ext a b) (h:ORep a o q):ORep b o q:=by
 cases o with
 | lst ds=>obtain ⟨vs,e,r⟩:=h;exact ⟨vs,e,r.mono x⟩
 | dct kvs=>obtain ⟨us,e,k,r⟩:=h;exact ⟨us,e,k,r.mono x⟩
 | ins c fs=>obtain ⟨C,dx,us,n,e,k,r⟩:=h;exact ⟨C,dx,us,by rw [x.k];exact n,e,k,r.mono x⟩
 | tab C m=>obtain ⟨c,P,e,t⟩:=h;exact ⟨c,P,by rw [x.k];exact e,x.tab _ t⟩
 | gone=>trivial
theorem Sim.lt (s:Sim a G) (h:G[i]? =some o):i < a.n:=by rw [<-s.len];exact (List.getElem?_eq_some_iff.mp h).1
theorem Sim.put (s:Sim a G) (h:a.H p=none):Sim (a.put p ho) G:=by
 refine ⟨s.len,s.inj,λi o e=> ?_,λi hi=> ?_⟩
 ·have z:a.H (a.m i)≠none:=s.tr i (s.lt e);have ne:a.m i≠p:=λq=>z (by rw [q];exact h)
  show ORep _ o (upd a.H p ho (a.m i));rw [Ao ne];exact (s.obj i o e).mono (Ext.put h)
 ·have z:a.H (a.m i)≠none:=s.tr i hi;have ne:a.m i≠p:=λq=>z (by rw [q];exact h)
  show upd a.H p ho (a.m i)≠none;rw [Ao ne];exact z
theorem Sim.push (s:Sim a G) (h:a.H p=none) (r:ORep (a.push p ho) o (some ho)):Sim (a.push p ho) (G++ [o]):=by
 have nep:∀i,i < a.n->a.m i≠p:=λi hi q=>s.tr i hi (by rw [q];exact h)
 have old:∀i,i < a.n->(a.push p ho).m i=a.m i:=λi hi=>by show (if i=a.n then p else a.m i)=_;rw [if_neg (Nat.ne_of_lt hi)]
 have new:(a.push p ho).m a.n=p:=by show (if a.n=a.n then p else a.m a.n)=_;rw [if_pos rfl]
 refine ⟨by simp [s.len,Wd.push],λi j hi hj e=> ?_,λi u e=> ?_,λi hi=> ?_⟩
 ·have hi':i < a.n + 1:=hi;have hj':j < a.n + 1:=hj;by_cases h1:i < a.n
  ·by_cases h2:j < a.n
   ·rw [old i h1,old j h2] at e;exact s.inj i j h1 h2 e
   ·have:j=a.n:=by lia
    subst this;rw [old i h1,new] at e;exact absurd e (nep i h1)
  ·have:i=a.n:=by lia
   subst this;by_cases h2:j < a.n
   ·rw [old j h2,new] at e;exact absurd e.symm (nep j h2)
   ·lia
 ·by_cases h1:i < a.n
  ·rw [List.getElem?_append_left (by rw [s.len];exact h1)] at e;rw [old i h1];show ORep _ u (upd a.H p ho (a.m i));rw [Ao (nep i h1)];exact (s.obj i u e).mono (Ext.push h)
  ·have hl:i < (G++ [o]).length:=(List.getElem?_eq_some_iff.mp e).1;have:i=a.n:=by rw [List.length_append,s.len] at hl;simp at hl;lia
   subst this;rw [List.getElem?_append_right (by rw [s.len];exact Nat.le_refl _),s.len] at e;simp at e;subst e;rw [new];show ORep _ o (upd a.H p ho p);rw [Dt];exact r
 ·have hi':i < a.n + 1:=hi;by_cases h1:i < a.n
  ·rw [old i h1];show upd a.H p ho (a.m i)≠none;rw [Ao (nep i h1)];exact s.tr i h1
  ·have:i=a.n:=by lia
   subst this;rw [new];show upd a.H p ho p≠none;rw [Dt];simp
theorem Ext.wr (h:a.H p=some (.lst vs)):Ext a (a.put p ho):=
 ⟨rfl,Nat.le_refl _,λ_ _=>rfl,λq xs e=>by
  show upd a.H p ho q=_;rw [Ao (λz=>by subst z;rw [h] at e;cases e)];exact e,λq o u e=>by
  show upd a.H p ho q=_;rw [Ao (λz=>by subst z;rw [h] at e;cases e)];exact e,λ_ t=>t.mono (λq ps e=>by show upd a.H p ho q=_;rw [Ao (λz=>by subst z;rw [h] at e;cases e)];exact e) (λq o u e=>by show upd a.H p ho q=_;rw [Ao (λz=>by subst z;rw [h] at e;cases e)];exact e)⟩
theorem Sim.wr (s:Sim a G) (hi:i < a.n) {vs':List V} {ds':List D} (h:a.H (a.m i)=some (.lst vs)) (r:Reps (a.put (a.m i) (.lst vs')) ds' vs'):Sim (a.put (a.m i) (.lst vs')) (G.set i (.lst ds')):=by
 refine ⟨by rw [List.length_set];exact s.len,s.inj,λj o e=> ?_,λj hj=> ?_⟩
 ·rw [List.getElem?_set] at e;show ORep _ o (upd a.H (a.m i) (.lst vs') (a.m j));by_cases hij:i=j
  ·subst hij;rw [if_pos rfl,if_pos (by rw [s.len];exact hi)] at e;cases e;rw [Dt];exact ⟨vs',rfl,r⟩
  ·rw [if_neg hij] at e;rw [Ao λz=>hij (s.inj _ _ (s.lt e) hi z).symm];exact (s.obj j o e).mono (Ext.wr h)
 ·show upd a.H (a.m i) (.lst vs') (a.m j)≠none;by_cases hij:a.m j=a.m i
  ·rw [hij,Dt];simp
  ·rw [Ao hij];exact s.tr j hj
mutual
noncomputable def bel (n:Nat):D->Bool
 | .ref i=>decide (i < n)
 | .tup ds=>bels n ds
 | .fl ds=>bels n ds
 | _=>true
noncomputable def bels (n:Nat):List D->Bool
 | []=>true
 | d::ds=>bel n d && bels n ds
end
noncomputable def Lh (n:Nat):DO->Bool
 | .lst ds=>bels n ds
 | .dct kvs=>bels n (kvs.map (·.2))
 | .ins _ fs=>bels n (fs.map (·.2))
 | .tab _ _=>true
 | .gone=>true
mutual
theorem Rep.bel:∀{d:D} {v:V},Rep a d v->bel a.n d=true
 | .non,_,_=>by simp [DL.bel]
 | .bl _,_,_=>by simp [DL.bel]
 | .int _,_,_=>by simp [DL.bel]
 | .str _,_,_=>by simp [DL.bel]
 | .ty _,_,_=>by simp [DL.bel]
 | .tup ds,v,h=>by obtain ⟨p,vs,e,q,r⟩:=h;simp only [DL.bel];exact Reps.bels r
 | .fl ds,v,h=>by obtain ⟨p,vs,e,q,r⟩:=h;simp only [DL.bel];exact Reps.bels r
 | .ref i,v,h=>by obtain ⟨l,e⟩:=h;simp only [DL.bel];exact decide_eq_true l
theorem Reps.bels:∀{ds:List D} {vs:List V},Reps a ds vs->bels a.n ds=true
 | [],_,_=>by simp [DL.bels]
 | d::ds,vs,h=>by
  obtain ⟨v,r,e,h1,h2⟩:=h;simp only [DL.bels];rw [Rep.bel h1,Reps.bels h2]
  rfl
end
structure Cut (b c:Wd):Prop where
 k:c.K=b.K
 h:c.H=b.H
mutual
theorem Rep.cut {c:Wd} (x:Cut b c) (hn:n<=c.n) (hm:∀i,i < n->c.m i=b.m i):∀{d:D} {v:V},Rep b d v->bel n d=true->Rep c d v
 | .non,_,h,_=>h
 | .bl _,_,h,_=>h
 | .int _,_,h,_=>h
 | .str _,_,h,_=>h
 | .ty _,_,h,_=>h
 | .tup ds,v,h,q=>by obtain ⟨p,vs,e,t,r⟩:=h;simp only [DL.bel] at q;exact ⟨p,vs,e,by rw [x.k,x.h];exact t,Reps.cut x hn hm r q⟩
 | .fl ds,v,h,q=>by obtain ⟨p,vs,e,t,r⟩:=h;simp only [DL.bel] at q;exact ⟨p,vs,e,by rw [x.k,x.h];exact t,Reps.cut x hn hm r q⟩
 | .ref i,v,h,q=>by obtain ⟨l,e⟩:=h;simp only [DL.bel] at q;have q':=of_decide_eq_true q;exact ⟨Nat.lt_of_lt_of_le q' hn,by rw [hm i q'];exact e⟩
theorem Reps.cut {c:Wd} (x:Cut b c) (hn:n<=c.n) (hm:∀i,i < n->c.m i=b.m i):∀{ds:List D} {vs:List V},Reps b ds vs->bels n ds=true->Reps c ds vs
 | [],_,h,_=>h
 | d::ds,vs,h,q=>by obtain ⟨v,r,e,h1,h2⟩:=h;simp only [DL.bels,Bool.and_eq_true] at q;exact ⟨v,r,e,Rep.cut x hn hm h1 q.1,Reps.cut x hn hm h2 q.2⟩
end
theorem ORep.cut {c:Wd} (x:Cut b c) (hn:n<=c.n) (hm:∀i,i < n->c.m i=b.m i) (h:ORep b o q) (l:Lh n o=true):ORep c o q:=by
 cases o with
 | lst ds=>obtain ⟨vs,e,r⟩:=h;exact ⟨vs,e,Reps.cut x hn hm r l⟩
 | dct kvs=>obtain ⟨us,e,k,r⟩:=h;exact ⟨us,e,k,Reps.cut x hn hm r l⟩
 | ins c fs=>obtain ⟨C,dx,us,n,e,k,r⟩:=h;exact ⟨C,dx,us,by rw [x.k];exact n,e,k,Reps.cut x hn hm r l⟩
 | tab C m=>obtain ⟨c,P,e,t⟩:=h;exact ⟨c,P,by rw [x.k];exact e,by rw [x.h];exact t⟩
 | gone=>trivial
theorem ORep.Lh (h:ORep a o q):Lh a.n o=true:=by
 cases o with
 | lst ds=>obtain ⟨vs,e,r⟩:=h;exact r.bels
 | dct kvs=>obtain ⟨us,e,k,r⟩:=h;exact r.bels
 | ins c fs=>obtain ⟨C,dx,us,n,e,k,r⟩:=h;exact r.bels
 | tab C m=>rfl
 | gone=>rfl
open Classical in
noncomputable def tidy (G:DH) (r:R D):R D:=match r with
 | .ok d G'=>if G'.take G.length=G then
   (if bel G.length d=true then .ok d G else match d with
    | .ref i=>match G'[i]? with
     | some o=>if Lh G.length o=true then .ok (.ref G.length) (G++ [o]) else .ok d G'
     | none=>.ok d G'
    | _=>.ok d G') else .ok d G'
 | r=>r
theorem Xc (s:Sim a G) (h:out E a (tidy G r) Q):out E a r Q:=by
 cases r with
 | err e G'=>exact h
 | bad=>exact h
 | ok d G'=>
  intro b v x sb rb;unfold tidy at h;dsimp only at h;split at h
  ·rename_i hG;have hlen:∀i o,G[i]? =some o->G'[i]? =some o:=λi o e=>by have hi:i < G.length:=(List.getElem?_eq_some_iff.mp e).1;rw [<-hG,List.getElem?_take_of_lt hi] at e;exact e
   have base:∀(c:Wd),Cut b c->a.n<=c.n->(∀i,i < a.n->c.m i=b.m i)->∀i o,G[i]? =some o->ORep c o (c.H (c.m i)):=λc cc hn hm i o e=>by have q:=sb.obj i o (hlen i o e);rw [cc.h,hm i (s.lt e)];exact q.cut cc hn hm (s.obj i o e).Lh
   split at h
   ·rename_i hb;rw [s.len] at hb;let c:Wd:=⟨b.K,a.n,b.m,b.H⟩;have cc:Cut b c:=⟨rfl,rfl⟩;refine h c v ⟨x.k,Nat.le_refl _,x.m,x.tup,x.frz,x.tab⟩ ⟨s.len,λi j hi hj=>sb.inj i j (Nat.lt_of_lt_of_le hi x.n) (Nat.lt_of_lt_of_le hj x.n),base c cc (Nat.le_refl _) (λ_ _=>rfl),λi hi=>sb.tr i (Nat.lt_of_lt_of_le hi x.n)⟩ ?_;exact rb.cut cc (Nat.le_refl _) (λ_ _=>rfl) hb
   ·rename_i hb;split at h
    ·rename_i i;obtain ⟨il,iv⟩:=rb;split at h
     ·rename_i o ho;split at h
      ·rename_i hbo;rw [s.len] at hbo hb h;simp only [DL.bel,decide_eq_true_eq] at hb;let c:Wd:=⟨b.K,a.n + 1,λk=>if k=a.n then b.m i else b.m k,b.H⟩;have cc:Cut b c:=⟨rfl,rfl⟩;have cm:∀j,j < a.n->c.m j=b.m j:=λj hj=>by show (if j=a.n then b.m i else b.m j)=_;rw [if_neg (Nat.ne_of_lt hj)]
       have cn:c.m a.n=b.m i:=by show (if a.n=a.n then b.m i else b.m a.n)=_;rw [if_pos rfl]
       have lt':∀j,j < a.n->j < b.n:=λj hj=>Nat.lt_of_lt_of_le hj x.n
       refine h c v ⟨x.k,Nat.le_succ _,λj hj=>(cm j hj).trans (x.m j hj),x.tup,x.frz,x.tab⟩ ⟨by simp [s.len,c],λj k hj hk e=> ?_,λj u e=> ?_,λj hj=> ?_⟩ ⟨Nat.lt_succ_self _,by rw [cn];exact iv⟩
       ·have hj':j < a.n + 1:=hj;have hk':k < a.n + 1:=hk;by_cases h1:j < a.n
        ·by_cases h2:k < a.n
         ·rw [cm j h1,cm k h2] at e;exact sb.inj j k (lt' j h1) (lt' k h2) e
         ·have:k=a.n:=by lia
          subst this;rw [cm j h1,cn] at e;have:=sb.inj j i (lt' j h1) il e;lia
        ·have:j=a.n:=by lia
         subst this;by_cases h2:k < a.n
         ·rw [cm k h2,cn] at e;have:=sb.inj i k il (lt' k h2) e;lia
         ·lia
       ·by_cases h1:j < a.n
        ·rw [List.getElem?_append_left (by rw [s.len];exact h1)] at e;exact base c cc (Nat.le_succ _) cm j u e
        ·have hl:j < (G++ [o]).length:=(List.getElem?_eq_some_iff.mp e).1;have:j=a.n:=by rw [List.length_append,s.len] at hl;simp at hl;lia
         subst this;rw [List.getElem?_append_right (by rw [s.len];exact Nat.le_refl _),s.len] at e;simp at e;subst e;rw [cn];exact (sb.obj i o ho).cut cc (Nat.le_succ _) cm hbo
       ·have hj':j < a.n + 1:=hj;by_cases h1:j < a.n
        ·rw [cm j h1];exact sb.tr j (lt' j h1)
        ·have:j=a.n:=by lia
         subst this;rw [cn];exact sb.tr i il
      ·exact h b v x sb ⟨il,iv⟩
     ·exact h b v x sb ⟨il,iv⟩
    ·exact h b v x sb rb
  ·exact h b v x sb rb
end
noncomputable def dV (i:Nat):DE:=λS G=>match S[i]? with
 | some (some d)=>.ok d G
 | _=>.bad
noncomputable def dC (d:D):DE:=λ_ G=>.ok d G
noncomputable def dOp (f:D->D->DH->R D) (a b:DE):DE:=λS G=>(a S G).bind λx G1=>(b S G1).bind λy G2=>f x y G2
noncomputable def dUn (f:D->DH->R D) (a:DE):DE:=λS G=>(a S G).bind f
noncomputable def Ai:DA:=λ_ G=>.ok [] G
noncomputable def Ac (a:DE) (r:DA):DA:=λS G=>(a S G).bind λx G1=>(r S G1).bind λxs G2=>.ok (x::xs) G2
noncomputable def dFn (f:List D->DH->R D) (t:DA):DE:=λS G=>(t S G).bind f
noncomputable def Cr (t:DE):DE:=λS G=>tidy G (t S G)
noncomputable def asB:D->DH->R Bool
 | .bl k,G=>.ok k G
 | _,_=>.bad
noncomputable def Bb (t:DE):DB:=λS G=>(t S G).bind asB
noncomputable def V3 (t u:DB):DB:=λS G=>(t S G).bind λk G1=>if k=true then u S G1 else .ok false G1
noncomputable def dOr (t u:DB):DB:=λS G=>(t S G).bind λk G1=>if k=true then .ok true G1 else u S G1
noncomputable def Ii (t:DB):DB:=λS G=>(t S G).bind λk G1=>.ok (!k) G1
noncomputable def Vj (t u:DE):DE:=λS G=>(t S G).bind λx G1=>(asB x G1).bind λk G2=>if k=true then u S G2 else .ok (.bl false) G2
noncomputable def Y9 (t:DE):DE:=λS G=>(t S G).bind λx G1=>(asB x G1).bind λk G2=>.ok (.bl (!k)) G2
noncomputable def dIf (c:DB) (t u:DE):DE:=λS G=>(c S G).bind λk G1=>if k=true then t S G1 else u S G1
noncomputable def Ss (f g:D->D->DH->R D) (a b c:DE):DE:=λS G=>(a S G).bind λx G1=>(b S G1).bind λy G2=>(f x y G2).bind λz G3=>(asB z G3).bind λk G4=>
 if k=true then (c S G4).bind λw G5=>g y w G5 else .ok (.bl false) G4
noncomputable def Ho (ds:List D) (G:DH):R D:=if ds.length<=1000000 then .ok (.tup ds) G else .bad
noncomputable def Ar (ds:List D) (G:DH):R D:=if ds.length<=1000000 then .ok (.ref G.length) (G++ [.lst ds]) else .bad
noncomputable def Br (d:D) (G:DH):Option (List D):=match d with
 | .tup xs=>some xs
 | .fl xs=>some xs
 | .ref i=>match G[i]? with
  | some (.lst xs)=>some xs
  | _=>none
 | _=>none
theorem size6:(1000000:Nat)<=sizeLine:=by decide
section
variable {X:Cx} {E:XK} {a b c:Expr} {ta tb tc:DE} {pos:Pos}
theorem two (h:lE K E (dOp f ta tb) σ H Q):tOp (lR2 K E f) (lE K E ta) (lE K E tb) σ H Q:=by obtain ⟨a,S,G,hk,rfl,s,r,h⟩:=h;refine ⟨a,S,G,hk,rfl,s,r,(Ec h).imp ?_⟩;rintro v _ ⟨b,d,G1,rfl,x,s1,q,_,h1⟩;refine ⟨b,S,G1,x.k.trans hk,rfl,s1,r.mono x,(Ec h1).imp ?_⟩;rintro w _ ⟨c,e,G2,rfl,y,s2,q2,_,h2⟩;exact ⟨c,G2,d,e,y.k.trans (x.k.trans hk),rfl,s2,q.mono y,q2,h2⟩
theorem Ab (i:Nat) {pos:Pos} (hN:X.N[i]? =some x:=by rfl) (hv:Vis X.env.scope x:=by first | exact Or.inl rfl | exact Or.inr (Or.inl rfl) | exact Or.inr (Or.inr rfl)) (hd:(x == ("__debug__":Str))=false:=by decide)
  (hcd:(x == ("__classdict__":Str))=false:=by decide):QE X E (.Name x pos) (dV i):=by
 refine (ZJg hN hv hd hcd).mono λσ H Q h=> ?_
 obtain ⟨a,S,G,hk,rfl,s,r,h⟩:=h;unfold dV at h;split at h
 ·rename_i d e;obtain ⟨v,e',q⟩:=r.get i d e;exact ⟨v,e',h a v (Ext.refl a) s q⟩
 ·exact h.elim
theorem Oc (h:lE K E (dC d) σ H Q) (r:∀a:Wd,a.K=K->Rep a d v):Q v H:=by obtain ⟨a,S,G,hk,rfl,s,_,h⟩:=h;exact h a v (Ext.refl a) s (r a hk)
theorem Ah {i:Int} {j:Nat}:QE X E (.Constant (.int i) j pos) (dC (.int i)):=ZGc.mono λσ H Q h=>Oc h λ_ _=>rfl
theorem Hh {i:Bool} {j:Nat}:QE X E (.Constant (.bool i) j pos) (dC (.bl i)):=ZEz.mono λσ H Q h=>Oc h λ_ _=>rfl
theorem Fw {j:Nat}:QE X E (.Constant .none j pos) (dC .non):=ZEi.mono λσ H Q h=>Oc h λ_ _=>rfl
theorem Hb (hg:Gl X x) (hm:X.mg x=some u) (r:RelV v u) (rd:∀a:Wd,a.K=X.K->Rep a d v) (hd:(x == ("__debug__":Str))=false:=by decide):QE X E (.Name x pos) (dC d):=
 (ZHh hg hm r hd).mono λσ H Q h=>Oc h rd
theorem Al {op:Operator} (ho:OpR X (binaryOp op) (lR2 X.K E f)) (ha:QE X E a ta) (hb:QE X E b tb):QE X E (.BinOp a op b pos) (dOp f ta tb):=
 (ZKE ho ha hb).mono λ_ _ _ h=>two h
theorem T4 (ho:OpR X (compareOp op) (lR2 X.K E f)) (ha:QE X E a ta) (hb:QE X E b tb) (hm:behindInMarks op b=false):QE X E (.Compare a [op] [b] pos) (dOp f ta tb):=
 (ZJU ho ha hb hm).mono λ_ _ _ h=>two h
theorem Z5 {Q:Bool->Hp->Prop} (h:lB K E (Bb t) σ H Q):O2 (lE K E t) σ H Q:=by
 obtain ⟨a,S,G,hk,rfl,s,r,h⟩:=h;refine ⟨a,S,G,hk,rfl,s,r,(ZER h).imp ?_⟩;rintro v _ ⟨b,d,G1,rfl,x,s1,q,_,h1⟩;cases d with
 | bl k=>exact ⟨k,q,h1 b (Ext.refl b) s1⟩
 | _=>exact h1.elim
theorem ZDE {t t':TE} (w:∀σ H Q,t' σ H Q->t σ H Q) (σ:St) (H:Hp) (Q:Bool->Hp->Prop) (h:O2 t' σ H Q):O2 t σ H Q:=w _ _ _ h
theorem Bw (ho:OpR X (compareOp op) (lR2 X.K E f)) (ha:QE X E a ta) (hb:QE X E b tb) (hm:behindInMarks op b=false):QT X E (.Compare a [op] [b] pos) (Bb (dOp f ta tb)):=
 (ZLV ho ha hb hm).mono λσ H Q h=>ZDE (λ_ _ _ z=>two z) σ H Q (Z5 h)
theorem chain {g:D->D->DH->R D} (h:lE K E (Ss f g ta tb tc) σ H Q):ZDV (lR2 K E f) (lR2 K E g) (lE K E ta) (lE K E tb) (lE K E tc) σ H Q:=by
 obtain ⟨a,S,G,hk,rfl,s,r,h⟩:=h;refine ⟨a,S,G,hk,rfl,s,r,(Ec h).imp ?_⟩;rintro v _ ⟨b,d,G1,rfl,x,s1,q,_,h1⟩;refine ⟨b,S,G1,x.k.trans hk,rfl,s1,r.mono x,(Ec h1).imp ?_⟩;rintro w _ ⟨c,e,G2,rfl,y,s2,q2,_,h2⟩;refine ⟨c,G2,d,e,y.k.trans (x.k.trans hk),rfl,s2,q.mono y,q2,(Ec h2).imp ?_⟩;rintro z _ ⟨c3,e3,G3,rfl,y3,s3,q3,_,h3⟩;cases e3 with
 | bl k=>
  refine ⟨k,q3,?_⟩;cases k with
  | false=>exact h3 c3 (.bl false) (Ext.refl _) s3 rfl
  | true=>
   refine ⟨c3,S,G3,(y3.k.trans (y.k.trans (x.k.trans hk))),rfl,s3,((r.mono x).mono y).mono y3,(Ec h3).imp ?_⟩;rintro z4 _ ⟨c4,e4,G4,rfl,y4,s4,q4,_,h4⟩;exact ⟨c4,G4,e,e4,y4.k.trans (y3.k.trans (y.k.trans (x.k.trans hk))),rfl,s4,(q2.mono y3).mono y4,q4,h4⟩
 | _=>exact h3.elim
theorem ZEr {op':CmpOp} {g:D->D->DH->R D} (ho:OpR X (compareOp op) (lR2 X.K E f)) (ho':OpR X (compareOp op') (lR2 X.K E g)) (ha:QE X E a ta) (hb:QE X E b tb) (hc:QE X E c tc)
  (hm:lastMarks [op,op'] [b,c]=false:=by with_unfolding_all rfl):QT X E (.Compare a [op,op'] [b,c] pos) (Bb (Ss f g ta tb tc)):=
 (ZJz ho ho' ha hb hc hm).mono λσ H Q h=>ZDE (λ_ _ _ z=>chain z) σ H Q (Z5 h)
theorem Jb (ha:QE X E a ta) (he:∀whole,isTrue a X.env whole=(do let v<-whole;standAt a.pos;holding [v] (truthy v)):=by intro _;rfl):QT X E a (Bb ta):=
 (ZIh ha he).mono λσ H Q h=>Z5 h
theorem Ey (ha:QE X E a ta):QE X E a (Cr ta):=L2.PE.mono ha λσ H Q h=>by obtain ⟨w,S,G,hk,rfl,s,r,h⟩:=h;exact ⟨w,S,G,hk,rfl,s,r,Xc s h⟩
noncomputable def QW (X:Cx) (E:XK) (e:Expr) (t:DB):Prop:=PW X e (lB X.K E t)
theorem _root_.L2.PW.mono {t t':TT} (h:PW X e t) (w:∀σ H Q,t' σ H Q->t σ H Q):PW X e t':=λwh pins s σ H Q I q=>h wh pins s σ H Q I (w σ H Q q)
variable {u t:DB} {rest:List Expr}
theorem ZK6 {Q:Bool->Hp->Prop} (h:lB K E (V3 t u) σ H Q):tAnd (lB K E t) (lB K E u) σ H Q:=by
 obtain ⟨a,S,G,hk,rfl,s,r,h⟩:=h;refine ⟨a,S,G,hk,rfl,s,r,(Zo h).imp ?_⟩;rintro k _ ⟨b,G1,rfl,x,s1,_,h1⟩;cases k with
 | true=>exact ⟨b,S,G1,x.k.trans hk,rfl,s1,r.mono x,h1⟩
 | false=>exact h1 b (Ext.refl b) s1
theorem ZJB {Q:Bool->Hp->Prop} (h:lB K E (dOr t u) σ H Q):tOr (lB K E t) (lB K E u) σ H Q:=by
 obtain ⟨a,S,G,hk,rfl,s,r,h⟩:=h;refine ⟨a,S,G,hk,rfl,s,r,(Zo h).imp ?_⟩;rintro k _ ⟨b,G1,rfl,x,s1,_,h1⟩;cases k with
 | true=>exact h1 b (Ext.refl b) s1
 | false=>exact ⟨b,S,G1,x.k.trans hk,rfl,s1,r.mono x,h1⟩
theorem ZKl (ha:QT X E a t):QW X E (.BoolOp .And [a] pos) t:=pw_and1 ha
theorem M8 (ha:QT X E a t):QW X E (.BoolOp .Or [a] pos) t:=pw_or1 ha
theorem ZD4 (ha:QT X E a t) (hb:QW X E (.BoolOp .And (b::rest) pos) u):QW X E (.BoolOp .And (a::b::rest) pos) (V3 t u):=(pw_and ha hb).mono λ_ _ _ h=>ZK6 h
theorem Lq (ha:QT X E a t) (hb:QW X E (.BoolOp .Or (b::rest) pos) u):QW X E (.BoolOp .Or (a::b::rest) pos) (dOr t u):=(pw_or ha hb).mono λ_ _ _ h=>ZJB h
theorem Ks (h:QW X E a t):QT X E a t:=L2.PW.pt h
theorem Km (ha:QT X E a t):QT X E (.UnaryOp .Not a pos) (Ii t):=(ZJR ha).mono λσ H Q h=>by obtain ⟨a,S,G,hk,rfl,s,r,h⟩:=h;refine ⟨a,S,G,hk,rfl,s,r,(Zo h).imp ?_⟩;rintro k _ ⟨b,G1,rfl,x,s1,_,h1⟩;exact h1 b (Ext.refl b) s1
theorem ZC4 {op} (h:QE X E a ta):QE X E (.BoolOp op [a] pos) ta:=ZFd h
theorem ZAn (ha:QE X E a ta) (hb:QE X E (.BoolOp .And (b::rest) pos) tb):QE X E (.BoolOp .And (a::b::rest) pos) (Vj ta tb):=(ZID ha hb).mono λσ H Q h=>by
 obtain ⟨a,S,G,hk,rfl,s,r,h⟩:=h;refine ⟨a,S,G,hk,rfl,s,r,(Ec h).imp ?_⟩;rintro v _ ⟨b,d,G1,rfl,x,s1,q,_,h1⟩;cases d with
 | bl k=>
  refine ⟨k,q,?_⟩;cases k with
  | true=>exact ⟨b,S,G1,x.k.trans hk,rfl,s1,r.mono x,h1⟩
  | false=>exact h1 b _ (Ext.refl b) s1 rfl
 | _=>exact h1.elim
theorem ZHy (ha:QE X E a ta):QE X E (.UnaryOp .Not a pos) (Y9 ta):=(ZKi ha).mono λσ H Q h=>by
 obtain ⟨a,S,G,hk,rfl,s,r,h⟩:=h;refine ⟨a,S,G,hk,rfl,s,r,(Ec h).imp ?_⟩;rintro v _ ⟨b,d,G1,rfl,x,s1,q,_,h1⟩;cases d with
 | bl k=>exact ⟨k,q,h1 b _ (Ext.refl b) s1 rfl⟩
 | _=>exact h1.elim
theorem ZDS (hc:QT X E c t) (ha:QE X E a ta) (hb:QE X E b tb):QE X E (.IfExp c a b pos) (dIf t ta tb):=(ZKp hc ha hb).mono λσ H Q h=>by
 obtain ⟨a,S,G,hk,rfl,s,r,h⟩:=h;refine ⟨a,S,G,hk,rfl,s,r,(ZAh h).imp ?_⟩;rintro k _ ⟨b,G1,rfl,x,s1,_,h1⟩;cases k with
 | true=>exact ⟨b,S,G1,x.k.trans hk,rfl,s1,r.mono x,h1⟩
 | false=>exact ⟨b,S,G1,x.k.trans hk,rfl,s1,r.mono x,h1⟩
variable {es:List Expr} {tr:DA}
theorem Aj:QA X E [] Ai:=ZJ3.mono λσ H Q h=>by obtain ⟨a,S,G,hk,rfl,s,r,h⟩:=h;exact h a [] (Ext.refl a) s rfl
noncomputable def notStar:Expr->Bool
 | .Starred _ _=>false
 | _=>true
theorem Kw (a:Expr) (es:List Expr) (env:Env) (h:notStar a=true):starEach (a::es) env=(false,eval a env)::starEach es env:=by
 cases a <;> first
  | exact absurd h Bool.false_ne_true
  | rfl
theorem Ml (pos:Pos) (env:Env):∀es:List Expr,es.all notStar=true->(backTo pos (starEach es env)).any (·.1)=false
 | [],_=>rfl
 | a::es,h=>by
  rw [List.all_cons,Bool.and_eq_true] at h;rw [Kw a es env h.1];have ih:=Ml pos env es h.2;unfold backTo at ih ⊢;rw [List.map_cons,List.any_cons,ih]
  rfl
theorem Ae (ha:QE X E a ta) (hr:QA X E es tr) (hs:notStar a=true:=by rfl):QA X E (a::es) (Ac ta tr):=(ZJ7 ha hr (Kw a es X.env hs)).mono λσ H Q h=>by obtain ⟨a,S,G,hk,rfl,s,r,h⟩:=h;refine ⟨a,S,G,hk,rfl,s,r,(ZHP h).imp ?_⟩;rintro v _ ⟨b,d,G1,rfl,x,s1,q,_,h1⟩;refine ⟨b,S,G1,x.k.trans hk,rfl,s1,r.mono x,(ZIZ h1).imp ?_⟩;rintro vs _ ⟨c,ds,G2,rfl,y,s2,q2,_,h2⟩;exact h2 c _ (Ext.refl c) s2 (Reps.cons (q.mono y) q2)
theorem Kr {x1} (h:QA X E es tr):QE X E (.Tuple es x1 pos) (dFn Ho tr):=(ZKP h).mono λσ H Q h=>by
 obtain ⟨a,S,G,hk,rfl,s,r,h⟩:=h;refine ⟨a,S,G,hk,rfl,s,r,(Ka h).imp ?_⟩;rintro vs _ ⟨b,ds,G1,rfl,x,s1,q,_,h1⟩;unfold Ho at h1;split at h1
 ·rename_i hl;refine ⟨by rw [<-q.length];exact Nat.le_trans hl size6,λp hp=> ?_⟩;exact h1 (b.put p (.tup vs)) (.ref p) (Ext.put hp) (s1.put hp) ⟨p,vs,rfl,.of Dt,q.mono (Ext.put hp)⟩
 ·exact h1.elim
theorem Ek (h:QA X E es tr):QE X E (.List es pos) (dFn Ar tr):=(ZIN h).mono λσ H Q h=>by
 obtain ⟨a,S,G,hk,rfl,s,r,h⟩:=h;refine ⟨a,S,G,hk,rfl,s,r,(Ka h).imp ?_⟩;rintro vs _ ⟨b,ds,G1,rfl,x,s1,q,_,h1⟩;unfold Ar at h1;split at h1
 ·rename_i hl;refine ⟨by rw [<-q.length];exact Nat.le_trans hl size6,λp hp=> ?_⟩;refine h1 (b.push p (.lst vs)) (.ref p) (Ext.push hp) (s1.push hp ⟨vs,rfl,q.mono (Ext.push hp)⟩) ⟨?_,?_⟩
  ·rw [s1.len];exact Nat.lt_succ_self _
  ·rw [s1.len];show V.ref p=.ref (if b.n=b.n then p else b.m b.n);rw [if_pos rfl]
 ·exact h1.elim
variable {e:Expr} {x:Str} {p:Pos}
theorem ZAF {f:List D->DH->R D} (h:lE K E (dFn f tr) σ H Q):lA K E tr σ H (λvs H1=>lRn K E f vs H1 Q):=by obtain ⟨a,S,G,hk,rfl,s,r,h⟩:=h;refine ⟨a,S,G,hk,rfl,s,r,(Ka h).imp ?_⟩;rintro vs _ ⟨b,ds,G1,rfl,x,s1,q,_,h1⟩;exact ⟨b,G1,ds,x.k.trans hk,rfl,s1,q,h1⟩
theorem Cp {id:String} {f:List D->DH->R D} (hc:CallR X (.builtin id) (lRn X.K E f)) (hg:Gl X x) (hm:X.mg x=none) (hv:bootBuiltins x=some (.builtin id)) (ha:QA X E (e::es) tr) (hn:x≠"__name__":=by decide) (hdb:(x == ("__debug__":Str))=false:=by decide)
  (he:notStar e=true:=by rfl) (hpl:es.all notStar=true:=by rfl):QE X E (.Call (.Name x p) (e::es) [] pos) (dFn f tr):=
 (ZIz hc hg hm hv ha hn hdb (Kw e es X.env he) (Ml pos X.env es hpl)).mono λσ H Q h=>ZAF h
theorem Lz {id:String} {f:List D->DH->R D} (hc:CallR X (.type id) (lRn X.K E f)) (hg:Gl X x) (hm:X.mg x=none) (hv:bootBuiltins x=some (.type id)) (ha:QA X E (e::es) tr) (hn:x≠"__name__":=by decide) (hdb:(x == ("__debug__":Str))=false:=by decide)
  (he:notStar e=true:=by rfl) (hpl:es.all notStar=true:=by rfl):QE X E (.Call (.Name x p) (e::es) [] pos) (dFn f tr):=
 (ZIb hc hg hm hv ha hn hdb (Kw e es X.env he) (Ml pos X.env es hpl)).mono λσ H Q h=>ZAF h
theorem Bk {CX:CXT} {f:Addr} {fd:FuncData} {ps:List Str} {F:List D->DH->R D} (FF:FnOk X.prog X.w X.K X.mg X.base CX k f fd ps (lF X.K F)) (hr:Room k X.A) (hg:Gl X x) (hm:X.mg x=some (.ref f)) (hk:PySem.W.keepIn X.K (.ref f)=true) (hb:Binds X.K fd ps [])
  (hx:Passes CX X E) (ha:QA X E (e::es) tr) (hdb:(x == ("__debug__":Str))=false:=by decide) (he:notStar e=true:=by rfl) (hpl:es.all notStar=true:=by rfl):
  QE X E (.Call (.Name x p) (e::es) [] pos) (dFn F tr):=
 (ZFM FF hr hg hm hk hb .nil hx ha hdb (Kw e es X.env he) (Ml pos X.env es hpl)).mono λσ H Q h=>by obtain ⟨a,S,G,hk,rfl,s,r,h⟩:=ZAF h;refine ⟨a,S,G,hk,rfl,s,r,h.imp ?_⟩;rintro vs _ ⟨b,G1,ds,hk,rfl,s1,q,h1⟩;exact ⟨b,G1,ds,hk,rfl,s1,by rw [List.append_nil];exact q,h1⟩
theorem Ax (hr:IxR X (lR2 X.K E f)) (ha:QE X E a ta) (hb:QE X E b tb) (hs:PlainIx b:=by intro _ _;rfl):QE X E (.Subscript a b pos) (dOp f ta tb):=
 (ZGq hr ha hb hs).mono λ_ _ _ h=>two h
end
noncomputable instance (i j:Int):Decidable (CMul i j):=by unfold CMul;infer_instance
noncomputable instance (i j:Int):Decidable (CPow i j):=by unfold CPow;infer_instance
noncomputable def CDivL (j:Int):Prop:=0 < j/\j.natAbs.log2 < 9000
noncomputable instance (j:Int):Decidable (CDivL j):=by unfold CDivL;infer_instance
noncomputable def Dg:D->D->DH->R D
 | .int i,.int j,G=>.ok (.int (i - j)) G
 | _,_,_=>.bad
noncomputable def Bo:D->D->DH->R D
 | .int i,.int j,G=>if CMul i j then .ok (.int (i * j)) G else .bad
 | _,_,_=>.bad
noncomputable def Es:D->D->DH->R D
 | .int i,.int j,G=>if CDivL j then .ok (.int (i / j)) G else .bad
 | _,_,_=>.bad
noncomputable def Dv:D->D->DH->R D
 | .int i,.int j,G=>if 0 < j then .ok (.int (i % j)) G else .bad
 | _,_,_=>.bad
noncomputable def J7:D->D->DH->R D
 | .int i,.int j,G=>if CPow i j then .ok (.int (i ^ j.toNat)) G else .bad
 | _,_,_=>.bad
noncomputable def Jg:D->D->DH->R D
 | .int i,.int j,G=>.ok (.bl (decide (i < j))) G
 | .str i,.str j,G=>.ok (.bl (decide (i.cps.toList < j.cps.toList))) G
 | _,_,_=>.bad
noncomputable def Z9:D->D->DH->R D
 | .int i,.int j,G=>.ok (.bl (decide (i<=j))) G
 | .str i,.str j,G=>.ok (.bl (!decide (j.cps.toList < i.cps.toList))) G
 | _,_,_=>.bad
noncomputable def Jl:D->D->DH->R D
 | .int i,.int j,G=>.ok (.bl (decide (j < i))) G
 | .str i,.str j,G=>.ok (.bl (decide (j.cps.toList < i.cps.toList))) G
 | _,_,_=>.bad
noncomputable def Ga (d:D) (G:DH):Option (List D):=match d with
 | .fl xs=>some xs
 | .ref i=>match G[i]? with
  | some (.lst xs)=>some xs
  | _=>none
 | _=>none
noncomputable def Ay:D->D->DH->R D
 | .int i,.int j,G=>.ok (.int (i + j)) G
 | .str i,.str j,G=>if i.length + j.length<=1000000 then .ok (.str (i++j)) G else .bad
 | .tup xs,.tup ys,G=>if xs≠ []/\xs.length + ys.length<=1000000 then .ok (.tup (xs++ys)) G else .bad
 | d,e,G=>match Ga d G,Ga e G with
  | some xs,some ys=>if xs.length + ys.length<=1000000 then .ok (.ref G.length) (G++ [.lst (xs++ys)]) else .bad
  | _,_=>.bad
section
variable {X:Cx} {E:XK}
theorem Fq {f:Value->Value->Sem Value} {r:R2} {F:D->D->DH->R D} (ho:OpR X f r)
  (h:∀(a:Wd) (G:DH) (d e:D) (x y:V) (Q:VK),a.K=X.K->Sim a G->Rep a d x->Rep a e y->out E a (F d e G) Q->r x y a.H Q):OpR X f (lR2 X.K E F):=
 ho.mono λx y H Q ⟨a,G,d,e,hk,hH,s,rd,re,q⟩=>by subst hH;exact h a G d e x y Q hk s rd re q
theorem El:OpR X (binaryOp .Sub) (lR2 X.K E Dg):=Fq ZK2 λa G d e x y Q hk s rd re q=>by
 cases d <;> cases e <;> first
  | exact q.elim
  | exact ⟨_,_,rd,re,q a _ (Ext.refl a) s rfl⟩
theorem Dw:OpR X (binaryOp .Mult) (lR2 X.K E Bo):=Fq ZEK λa G d e x y Q hk s rd re q=>by
 cases d <;> cases e <;> first
  | exact q.elim
  | (
    rename_i i j;unfold Bo at q;dsimp only at q;split at q
    ·exact ⟨_,_,rd,re,by assumption,q a _ (Ext.refl a) s rfl⟩
    ·exact q.elim)
theorem ZJ8:OpR X (binaryOp .FloorDiv) (rI (λ_ j=>CDivL j) λi j=>.int (i / j)):=opI λi j _ _ _ _ _ hc q=>by have e:i.fdiv j=i / j:=Int.fdiv_eq_ediv_of_nonneg _ (Int.le_of_lt hc.1);refine floordiv_int (by have:=hc.1;lia) (by rw [e];exact q) (.inl (PyProof.noPylong_of_log2 hc.2))
theorem Ji:OpR X (binaryOp .FloorDiv) (lR2 X.K E Es):=Fq ZJ8 λa G d e x y Q hk s rd re q=>by
 cases d <;> cases e <;> first
  | exact q.elim
  | (
    rename_i i j;unfold Es at q;dsimp only at q;split at q
    ·exact ⟨_,_,rd,re,by assumption,q a _ (Ext.refl a) s rfl⟩
    ·exact q.elim)
theorem Eu:OpR X (binaryOp .Mod) (lR2 X.K E Dv):=Fq ZH4 λa G d e x y Q hk s rd re q=>by
 cases d <;> cases e <;> first
  | exact q.elim
  | (
    rename_i i j;unfold Dv at q;dsimp only at q;split at q
    ·exact ⟨_,_,rd,re,by assumption,q a _ (Ext.refl a) s rfl⟩
    ·exact q.elim)
theorem M3:OpR X (binaryOp .Pow) (lR2 X.K E J7):=Fq ZLL λa G d e x y Q hk s rd re q=>by
 cases d <;> cases e <;> first
  | exact q.elim
  | (
    rename_i i j;unfold J7 at q;dsimp only at q;split at q
    ·exact ⟨_,_,rd,re,by assumption,q a _ (Ext.refl a) s rfl⟩
    ·exact q.elim)
theorem V1:OpR X (compareOp .Lt) (lR2 X.K E Jg):=Fq (ZJV.or ZK1) λa G d e x y Q hk s rd re q=>by
 cases d <;> cases e <;> first
  | exact q.elim
  | exact .inl ⟨_,_,rd,re,q a _ (Ext.refl a) s rfl⟩
  | exact .inr ⟨_,_,rd,re,q a _ (Ext.refl a) s rfl⟩
theorem ZGN:OpR X (compareOp .LtE) (λx y H Q=>∃i j,x=.str i/\y=.str j/\Q (.bl (!decide (j.cps.toList < i.cps.toList))) H):=by intro pins s σ H x y v u Q I rx ry h;obtain ⟨i,j,rfl,rfl,q⟩:=h;obtain ⟨t,rfl⟩:=rx;obtain ⟨t',rfl⟩:=ry;exact PySem.P.le_str ⟨.bl _,H,I,rfl,q⟩
theorem ZJG:OpR X (compareOp .Gt) (λx y H Q=>∃i j,x=.str i/\y=.str j/\Q (.bl (decide (j.cps.toList < i.cps.toList))) H):=by intro pins s σ H x y v u Q I rx ry h;obtain ⟨i,j,rfl,rfl,q⟩:=h;obtain ⟨t,rfl⟩:=rx;obtain ⟨t',rfl⟩:=ry;exact PySem.P.gt_str ⟨.bl _,H,I,rfl,q⟩
theorem o_le:OpR X (compareOp .LtE) (lR2 X.K E Z9):=Fq (ZET.or ZGN) λa G d e x y Q hk s rd re q=>by
 cases d <;> cases e <;> first
  | exact q.elim
  | exact .inl ⟨_,_,rd,re,q a _ (Ext.refl a) s rfl⟩
  | exact .inr ⟨_,_,rd,re,q a _ (Ext.refl a) s rfl⟩
theorem Mw:OpR X (compareOp .Gt) (lR2 X.K E Jl):=Fq (ZJa.or ZJG) λa G d e x y Q hk s rd re q=>by
 cases d <;> cases e <;> first
  | exact q.elim
  | exact .inl ⟨_,_,rd,re,q a _ (Ext.refl a) s rfl⟩
  | exact .inr ⟨_,_,rd,re,q a _ (Ext.refl a) s rfl⟩
theorem Sim.lst (s:Sim a G) (h:G[i]? =some (.lst xs)):∃vs,a.H (a.m i)=some (.lst vs)/\Reps a xs vs:=s.obj i _ h
theorem Ls (s:Sim a G) (r:Reps a ds vs) (h:out E a (.ok (.ref G.length) (G++ [.lst ds])) Q) (p:Addr) (hp:a.H p=none):Q (.ref p) (upd a.H p (.lst vs)):=by
 refine h (a.push p (.lst vs)) (.ref p) (Ext.push hp) (s.push hp ⟨vs,rfl,r.mono (Ext.push hp)⟩) ⟨?_,?_⟩
 ·rw [s.len];exact Nat.lt_succ_self _
 ·rw [s.len];show V.ref p=.ref (if a.n=a.n then p else a.m a.n);rw [if_pos rfl]
theorem ZBa (s:Sim a G) (r:Reps a ds vs) (h:out E a (.ok (.tup ds) G) Q) (p:Addr) (hp:a.H p=none):Q (.ref p) (upd a.H p (.tup vs)):=
 h (a.put p (.tup vs)) (.ref p) (Ext.put hp) (s.put hp) ⟨p,vs,rfl,.of Dt,r.mono (Ext.put hp)⟩
theorem Z4 {x:V} (s:Sim a G) (r:Rep a d x) (h:Ga d G=some xs):∃p vs,x=.ref p/\SqL a.K a.H p vs/\Reps a xs vs:=by
 cases d with
 | fl ys=>
  have e:ys=xs:=Option.some.inj h;subst e;obtain ⟨p,vs,e,q,rr⟩:=r;exact ⟨p,vs,e,q.sq,rr⟩
 | ref i=>
  unfold Ga at h;dsimp only at h;split at h
  ·rename_i ys hi;have e:ys=xs:=Option.some.inj h;subst e;obtain ⟨vs,e1,r1⟩:=s.lst hi;exact ⟨a.m i,vs,r.2,.of e1,r1⟩
  ·cases h
 | _=>cases h
noncomputable def ZBW (K:PySem.W.Frag):R2:=λx y H Q=>∃l b xs zs,x=.ref l/\y=.ref b/\SqL K H l xs/\SqL K H b zs/\xs.length + zs.length<=sizeLine/\∀p,H p=none->Q (.ref p) (upd H p (.lst (xs++zs)))
theorem ZFi:OpR X (binaryOp .Add) (ZBW X.K):=by
 intro pins s σ H x y v u Q I rx ry h;obtain ⟨l,b,xs,zs,rfl,rfl,hH,hB,hz,q⟩:=h;cases rx;cases ry;obtain ⟨its,r,p1,_⟩:=I.list hH;obtain ⟨its2,r2,p2,_⟩:=I.list hB;obtain ⟨⟨cls,dd,data,sl⟩,n,ho,hc,_,hd⟩:=p1;obtain ⟨⟨cls2,dd2,data2,sl2⟩,n2,ho2,hc2,_,hd2⟩:=p2;cases hc;cases hd;cases hc2;cases hd2;have hl:=r.length;have hl2:=r2.length;refine concat_meets ⟨_,ho,rfl⟩ ⟨_,ho2,rfl⟩ noFill_list_add seq_list_add PySem.F.slot_list_add PySem.F.entry_list_add (PySem.F.args_list_add_2 _ _) (list_addW l b its.toArray its2.toArray n n2 dd dd2 sl sl2 (by rw [List.size_toArray,List.size_toArray];lia)) ⟨ho,ho2,?_⟩
 have ea:its.toArray++its2.toArray=(its++its2).toArray:=by simp
 rw [ea];exact ⟨.ref _,_,I.lnew (t':=s.toks) (r.append r2) (by rw [List.length_append];lia),rfl,q _ I.fresh⟩
theorem Bg:OpR X (binaryOp .Add) (lR2 X.K E Ay):=Fq (ZFF.or (ZEu.or (ZFi.or ZEZ))) λa G d e x y Q hk s rd re q=>by
 have lst:out E a (match Ga d G,Ga e G with
  | some xs,some ys=>if xs.length + ys.length<=1000000 then .ok (.ref G.length) (G++ [.lst (xs++ys)]) else .bad
  | _,_=>.bad) Q->ZBW X.K x y a.H Q:=λq=>by
  split at q
  ·rename_i xs ys h1 h2;split at q
   ·rename_i hl;obtain ⟨p,vs,e1,q1,r1⟩:=Z4 s rd h1;obtain ⟨p',vs',e2,q2,r2⟩:=Z4 s re h2;rw [hk] at q1 q2;exact ⟨p,p',vs,vs',e1,e2,q1,q2,by rw [<-r1.length,<-r2.length];exact Nat.le_trans hl size6,λp hp=>Ls s (r1.append r2) q p hp⟩
   ·exact q.elim
  ·exact q.elim
 have L:=λq=>Or.inr (a:=rI0 (λi j=>V.int (i + j)) x y a.H Q) (Or.inr (a:=∃i j,x=.str i/\y=.str j/\i.length + j.length<=sizeLine/\Q (.str (i++j)) a.H) (Or.inl (b:=ZBu X.K x y a.H Q) (lst q)))
 cases d <;> cases e <;> first
  | exact .inl ⟨_,_,rd,re,q a _ (Ext.refl a) s rfl⟩
  | exact L q
  | skip
 ·rename_i i j;unfold Ay at q;dsimp only at q;split at q
  ·rename_i hl;exact .inr (.inl ⟨_,_,rd,re,Nat.le_trans hl size6,q a _ (Ext.refl a) s rfl⟩)
  ·exact q.elim
 ·rename_i xs ys;unfold Ay at q;dsimp only at q;split at q
  ·rename_i hl;obtain ⟨p,vs,e1,h1,r1⟩:=rd;obtain ⟨p',vs',e2,h2,r2⟩:=re;rw [hk] at h1 h2;refine .inr (.inr (.inr ⟨p,p',vs,vs',e1,e2,h1,h2,λz=>hl.1 (List.eq_nil_of_length_eq_zero (by rw [r1.length,z];rfl)),by rw [<-r1.length,<-r2.length];exact Nat.le_trans hl.2 size6,λz=> ?_,λ_ p0 hp=> ?_⟩))
   ·refine q a (.ref p) (Ext.refl a) s ⟨p,vs,rfl,by rw [hk];exact h1,?_⟩;have e3:ys= []:=List.eq_nil_of_length_eq_zero (by rw [r2.length,z];rfl);rw [e3,List.append_nil];exact r1
   ·exact ZBa s (r1.append r2) q p0 hp
  ·exact q.elim
inductive VD where
 | flat (v:V)
 | lst (xs:List D)
 | tup (xs:List D)
 | bad
noncomputable def view (G:DH):D->VD
 | .non=>.flat .non
 | .bl b=>.flat (.bl b)
 | .int i=>.flat (.int i)
 | .str x=>.flat (.str x)
 | .ty _=>.bad
 | .tup xs=>.tup xs
 | .fl xs=>.lst xs
 | .ref i=>match G[i]? with
  | some (.lst xs)=>.lst xs
  | _=>.bad
noncomputable def eqZ (f:D->D->Option Bool):List D->List D->Option Bool
 | x::xs,y::ys=>match f x y,eqZ f xs ys with
  | some a,some b=>some (a && b)
  | _,_=>none
 | _,_=>some true
noncomputable def eqD:Nat->DH->D->D->Option Bool
 | 0=>λ_ _ _=>none
 | n + 1=>λG d e=>match view G d,view G e with
  | .flat a,.flat b=>some (eqV a b)
  | .lst xs,.lst ys=>if xs.length=ys.length then eqZ (eqD n G) xs ys else some false
  | .tup xs,.tup ys=>match eqZ (eqD n G) xs ys with
   | some b=>some (b && xs.length == ys.length)
   | none=>none
  | .bad,_=>none
  | _,.bad=>none
  | _,_=>some false
theorem Us {f:D->D->Option Bool}:∀{xs ys:List D} {k:Bool},eqZ f xs ys=some k->∃e:Nat->Bool,(∀(j:Nat) (x y:D),xs[j]? =some x->ys[j]? =some y->f x y=some (e j))/\k=(List.range (min xs.length ys.length)).all e
 | [],ys,k,h=>⟨λ_=>true,λj x y e1 _=>by simp at e1,by
   have h':some true=some k:=by cases ys <;> exact h
   cases h';simp⟩
 | x::xs,[],k,h=>⟨λ_=>true,λj x y _ e1=>by simp at e1,by have h':some true=some k:=h;cases h';simp⟩
 | x::xs,y::ys,k,h=>by
  unfold eqZ at h;split at h
  ·rename_i a b h1 h2;obtain ⟨e,he,hk⟩:=Us h2;have h':(a && b)=k:=Option.some.inj h
   refine ⟨λj=>match j with | 0=>a | j + 1=>e j,λj x' y' e1 e2=> ?_,?_⟩
   ·cases j with
    | zero=>simp at e1 e2;subst e1;subst e2;exact h1
    | succ j=>exact he j x' y' (by simpa using e1) (by simpa using e2)
   ·rw [<-h',hk];have:min (x::xs).length (y::ys).length=min xs.length ys.length + 1:=by simp only [List.length_cons];lia
    rw [this,List.range_succ_eq_map,List.all_cons,List.all_map]
    rfl
  ·cases h
theorem Ub (s:Sim a G) {x:V} (r:Rep a d x):match view G d with
  | .flat v=>x=v/\Dm v=true
  | .lst xs=>∃p vs,x=.ref p/\SqL a.K a.H p vs/\Reps a xs vs
  | .tup xs=>∃p vs,x=.ref p/\SqT a.K a.H p vs/\Reps a xs vs
  | .bad=>True:=by
 cases d with
 | non=>exact ⟨r,rfl⟩
 | bl b=>exact ⟨r,rfl⟩
 | int b=>exact ⟨r,rfl⟩
 | str b=>exact ⟨r,rfl⟩
 | ty n=>trivial
 | tup xs=>
  obtain ⟨p,vs,e,h,q⟩:=r;exact ⟨p,vs,e,h,q⟩
 | fl xs=>
  obtain ⟨p,vs,e,h,q⟩:=r;exact ⟨p,vs,e,h.sq,q⟩
 | ref i=>
  unfold view;dsimp only;split
  ·rename_i v hv
   split at hv <;> cases hv
  ·rename_i xs hv;split at hv
   ·rename_i ys hi;cases hv;obtain ⟨vs,e1,r1⟩:=s.lst hi;exact ⟨a.m i,vs,r.2,.of e1,r1⟩
   ·cases hv
  ·rename_i xs hv
   split at hv <;> cases hv
  ·trivial
theorem ZJW {x:V} {v:Value} (ry:RelV y u) (rx:RelV x v) (fy:Dm y=true) (fx:Dm x=true):SeqAt.RcAt A s u v (eqV y x):=by
 cases y with
 | non=>
  cases ry;cases x with
  | non=>cases rx;exact SeqAt.RcAt.none_none
  | bl b=>cases rx;exact SeqAt.RcAt.none_bool b
  | int b=>obtain ⟨t,rfl⟩:=rx;exact SeqAt.RcAt.none_int b t
  | str b=>obtain ⟨t,rfl⟩:=rx;exact SeqAt.RcAt.none_str b t
  | _=>exact absurd (show false=true from fx) Bool.false_ne_true
 | bl a=>
  cases ry;cases x with
  | non=>cases rx;exact SeqAt.RcAt.bool_none a
  | bl b=>cases rx;exact SeqAt.RcAt.bool_bool a b
  | int b=>obtain ⟨t,rfl⟩:=rx;exact SeqAt.RcAt.bool_int a b t
  | str b=>obtain ⟨t,rfl⟩:=rx;exact SeqAt.RcAt.bool_str a b t
  | _=>exact absurd (show false=true from fx) Bool.false_ne_true
 | int a=>
  obtain ⟨t',rfl⟩:=ry;cases x with
  | non=>cases rx;exact SeqAt.RcAt.int_none a t'
  | bl b=>cases rx;exact SeqAt.RcAt.int_bool a t' b
  | int b=>obtain ⟨t,rfl⟩:=rx;exact SeqAt.RcAt.int_int a t' b t
  | str b=>obtain ⟨t,rfl⟩:=rx;exact SeqAt.RcAt.int_str a t' b t
  | _=>exact absurd (show false=true from fx) Bool.false_ne_true
 | str a=>
  obtain ⟨t',rfl⟩:=ry;cases x with
  | non=>cases rx;exact SeqAt.RcAt.str_none a t'
  | bl b=>cases rx;exact SeqAt.RcAt.str_bool a t' b
  | int b=>obtain ⟨t,rfl⟩:=rx;exact SeqAt.RcAt.str_int a t' b t
  | str b=>obtain ⟨t,rfl⟩:=rx;exact SeqAt.RcAt.str_str a t' b t
  | _=>exact absurd (show false=true from fx) Bool.false_ne_true
 | _=>exact absurd (show false=true from fy) Bool.false_ne_true
theorem ZJf {x:V} {v:Value} (ry:RelV y u) (rx:RelV x v) (fy:Dm y=true) (fx:Dm x=true):SeqAt.RcNeAt A s u v (!eqV y x):=by
 cases y with
 | non=>
  cases ry;cases x with
  | non=>cases rx;exact SeqAt.RcNeAt.none_none
  | bl b=>cases rx;exact SeqAt.RcNeAt.none_bool b
  | int b=>obtain ⟨t,rfl⟩:=rx;exact SeqAt.RcNeAt.none_int b t
  | str b=>obtain ⟨t,rfl⟩:=rx;exact SeqAt.RcNeAt.none_str b t
  | _=>exact absurd (show false=true from fx) Bool.false_ne_true
 | bl a=>
  cases ry;cases x with
  | non=>cases rx;exact SeqAt.RcNeAt.bool_none a
  | bl b=>cases rx;exact SeqAt.RcNeAt.bool_bool a b
  | int b=>obtain ⟨t,rfl⟩:=rx;exact SeqAt.RcNeAt.bool_int a b t
  | str b=>obtain ⟨t,rfl⟩:=rx;exact SeqAt.RcNeAt.bool_str a b t
  | _=>exact absurd (show false=true from fx) Bool.false_ne_true
 | int a=>
  obtain ⟨t',rfl⟩:=ry;cases x with
  | non=>cases rx;exact SeqAt.RcNeAt.int_none a t'
  | bl b=>cases rx;exact SeqAt.RcNeAt.int_bool a t' b
  | int b=>obtain ⟨t,rfl⟩:=rx;exact SeqAt.RcNeAt.int_int a t' b t
  | str b=>obtain ⟨t,rfl⟩:=rx;exact SeqAt.RcNeAt.int_str a t' b t
  | _=>exact absurd (show false=true from fx) Bool.false_ne_true
 | str a=>
  obtain ⟨t',rfl⟩:=ry;cases x with
  | non=>cases rx;exact SeqAt.RcNeAt.str_none a t'
  | bl b=>cases rx;exact SeqAt.RcNeAt.str_bool a t' b
  | int b=>obtain ⟨t,rfl⟩:=rx;exact SeqAt.RcNeAt.str_int a t' b t
  | str b=>obtain ⟨t,rfl⟩:=rx;exact SeqAt.RcNeAt.str_str a t' b t
  | _=>exact absurd (show false=true from fx) Bool.false_ne_true
 | _=>exact absurd (show false=true from fy) Bool.false_ne_true
end
section
variable {X:Cx} {E:XK} {pins:List (Addr×Obj)} {σ:St} {s:Shared}
theorem ZIQ (v:V) (h:Dm v=true):eqV v v=true:=by cases v <;> first | rfl | exact absurd (show false=true from h) Bool.false_ne_true | (simp [eqV])
theorem ZC7 (I:Inv X pins σ a.H s) (hk:a.K=X.K) (sm:Sim a G):∀(n:Nat) {d e:D} {x:V} {k:Bool},Rep a d x->Rep a e x->eqD n G d e=some k->k=true
 | 0,_,_,_,_,_,_,h=>by cases h
 | n + 1,d,e,x,k,rd,re,h=>by
  have vd:=Ub sm rd;have ve:=Ub sm re;have items:∀{xs ys:List D} {vs:List V} {b:Bool},Reps a xs vs->Reps a ys vs->eqZ (eqD n G) xs ys=some b->b=true:=λ{xs ys vs b} r1 r2 hz=>by obtain ⟨f,hf,hb⟩:=Us hz;rw [hb,List.all_eq_true];intro j hj;have hj':j < min xs.length ys.length:=List.mem_range.mp hj;have h1:xs[j]? =some (xs[j]'(by lia)):=List.getElem?_eq_getElem (by lia);have h2:ys[j]? =some (ys[j]'(by lia)):=List.getElem?_eq_getElem (by lia);obtain ⟨v1,e1,q1⟩:=r1.get h1;obtain ⟨v2,e2,q2⟩:=r2.get h2;rw [e1] at e2;cases e2;exact ZC7 I hk sm n q1 q2 (hf j _ _ h1 h2)
  unfold eqD at h
  try dsimp only at h
  revert h vd ve
  cases view G d <;> cases view G e <;> intro vd ve h <;> dsimp only at h vd ve <;> first
   | cases h
   | skip
  ·
   rename_i v w;obtain ⟨rfl,f1⟩:=vd;obtain ⟨rfl,f2⟩:=ve;exact ZIQ _ f1
  ·obtain ⟨rfl,f1⟩:=vd;obtain ⟨p,vs,e1,_⟩:=ve;subst e1;cases f1
  ·obtain ⟨rfl,f1⟩:=vd;obtain ⟨p,vs,e1,_⟩:=ve;subst e1;cases f1
  ·obtain ⟨rfl,f1⟩:=ve;obtain ⟨p,vs,e1,_⟩:=vd;subst e1;cases f1
  ·obtain ⟨p,vs,e1,h1,r1⟩:=vd;obtain ⟨p',vs',e2,h2,r2⟩:=ve;rw [e1] at e2;cases e2;rw [hk] at h1 h2;cases I.Xf h1 h2;split at h
   ·exact items r1 r2 h
   ·rename_i hl;exact absurd (r1.length.trans r2.length.symm) hl
  ·obtain ⟨p,vs,e1,h1,r1⟩:=vd;obtain ⟨p',vs',e2,h2,r2⟩:=ve;rw [e1] at e2;cases e2;rw [hk] at h1 h2;obtain ⟨_,_,pl,_⟩:=I.list h1;obtain ⟨_,_,pt,_⟩:=I.tuple h2;exact absurd rfl (SeqAt.ne_of_list_tuple pl.isList pt)
  ·obtain ⟨rfl,f1⟩:=ve;obtain ⟨p,vs,e1,_⟩:=vd;subst e1;cases f1
  ·obtain ⟨p,vs,e1,h1,r1⟩:=vd;obtain ⟨p',vs',e2,h2,r2⟩:=ve;rw [e1] at e2;cases e2;rw [hk] at h1 h2;obtain ⟨_,_,pl,_⟩:=I.list h2;obtain ⟨_,_,pt,_⟩:=I.tuple h1;exact absurd rfl (SeqAt.ne_of_list_tuple pl.isList pt)
  ·obtain ⟨p,vs,e1,h1,r1⟩:=vd;obtain ⟨p',vs',e2,h2,r2⟩:=ve;rw [e1] at e2;cases e2;rw [hk] at h1 h2;cases I.Xz h1 h2;split at h
   ·rename_i b hz;have h':(b && _)=k:=Option.some.inj h;rw [<-h',items r1 r2 hz,r1.length,r2.length];simp
   ·cases h
theorem Vb {its:List Value} {j:Nat} (r:Reps a xs vs) (q:Vals vs its) (h:j < its.toArray.size):∃d v,xs[j]? =some d/\Rep a d v/\RelV v its.toArray[j]:=by
 have hl:j < its.length:=by simpa using h
 have h2:j < vs.length:=by rw [q.length];exact hl
 obtain ⟨v,e1⟩:∃v,vs[j]? =some v:=⟨vs[j],List.getElem?_eq_getElem h2⟩;obtain ⟨d,e2,rd⟩:=r.get' e1;obtain ⟨u,e3,ru⟩:=q.get e1;have e4:u=its.toArray[j]:=by have:its[j]? =some its[j]:=List.getElem?_eq_getElem hl;rw [this] at e3;simpa using (Option.some.inj e3).symm
 exact ⟨d,v,e2,rd,by rw [<-e4];exact ru⟩
theorem R1 (I:Inv X pins σ a.H s) (hk:a.K=X.K) (sm:Sim a G):∀(n:Nat) {A:Around} {d e:D} {x y:V} {u w:Value} {k:Bool},A.units + n < cLine->Rep a d x->Rep a e y->RelV x u->RelV y w->eqD n G d e=some k->
  SeqAt.EqAt A s u w k/\SeqAt.RcAt A s u w k/\SeqAt.RcNeAt A s u w (!k)
 | 0,_,_,_,_,_,_,_,_,_,_,_,_,_,h=>by cases h
 | n + 1,A,d,e,x,y,u,w,k,hu,rd,re,ru,rw',h=>by
  have vd:=Ub sm rd;have ve:=Ub sm re;have hu1:A.units < cLine:=by lia
  have hu2:A.in1.units + n < cLine:=by show A.units + 1 + n < cLine;lia
  have same:∀{z:V},Rep a d z->Rep a e z->eqD (n + 1) G d e=some k->k=true:=λr1 r2 r3=>ZC7 I hk sm (n + 1) r1 r2 r3
  have h0:=h;unfold eqD at h
  try dsimp only at h
  have refs:∀{p q:Addr} {k:Bool},(p=q->k=true)->SeqAt.RcAt A s (.ref p) (.ref q) k->SeqAt.EqAt A s (.ref p) (.ref q) k:=λ{p q k} hs hr=>by
   by_cases e:p=q
   ·rw [hs e,e];exact SeqAt.EqAt.same _
   ·exact SeqAt.EqAt.of_refs e hr
  revert h vd ve
  cases hvd:view G d <;> cases hve:view G e <;> intro vd ve h <;> dsimp only at h vd ve <;> first
   | cases h
   | skip
  ·
   obtain ⟨rfl,f1⟩:=vd;obtain ⟨rfl,f2⟩:=ve;exact ⟨ZBn ru rw' f1 f2,ZJW ru rw' f1 f2,ZJf ru rw' f1 f2⟩
  ·
   obtain ⟨rfl,f1⟩:=vd;obtain ⟨q,vs,rfl,h2,r2⟩:=ve;cases rw';rw [hk] at h2;obtain ⟨its,qv,pl,_⟩:=I.list h2;cases x with
   | non=>cases ru;exact ⟨SeqAt.EqAt.none_list pl.isList hu1,SeqAt.RcAt.none_list pl.isList hu1,SeqAt.RcNeAt.none_list pl.isList hu1⟩
   | bl b=>cases ru;exact ⟨SeqAt.EqAt.bool_list b pl.isList hu1,SeqAt.RcAt.bool_list b pl.isList hu1,SeqAt.RcNeAt.bool_list b pl.isList hu1⟩
   | int b=>obtain ⟨t,rfl⟩:=ru;exact ⟨SeqAt.EqAt.int_list b t pl.isList hu1,SeqAt.RcAt.int_list b t pl.isList hu1,SeqAt.RcNeAt.int_list b t pl.isList hu1⟩
   | str b=>obtain ⟨t,rfl⟩:=ru;exact ⟨SeqAt.EqAt.str_list b t pl.isList hu1,SeqAt.RcAt.str_list b t pl.isList hu1,SeqAt.RcNeAt.str_list b t pl.isList hu1⟩
   | _=>exact absurd (show false=true from f1) Bool.false_ne_true
  ·
   obtain ⟨rfl,f1⟩:=vd;obtain ⟨q,vs,rfl,h2,r2⟩:=ve;cases rw';rw [hk] at h2;obtain ⟨its,qv,pl,_⟩:=I.tuple h2;cases x with
   | non=>cases ru;exact ⟨SeqAt.EqAt.none_tuple pl hu1,SeqAt.RcAt.none_tuple pl hu1,SeqAt.RcNeAt.none_tuple pl hu1⟩
   | bl b=>cases ru;exact ⟨SeqAt.EqAt.bool_tuple b pl hu1,SeqAt.RcAt.bool_tuple b pl hu1,SeqAt.RcNeAt.bool_tuple b pl hu1⟩
   | int b=>obtain ⟨t,rfl⟩:=ru;exact ⟨SeqAt.EqAt.int_tuple b t pl hu1,SeqAt.RcAt.int_tuple b t pl hu1,SeqAt.RcNeAt.int_tuple b t pl hu1⟩
   | str b=>obtain ⟨t,rfl⟩:=ru;exact ⟨SeqAt.EqAt.str_tuple b t pl hu1,SeqAt.RcAt.str_tuple b t pl hu1,SeqAt.RcNeAt.str_tuple b t pl hu1⟩
   | _=>exact absurd (show false=true from f1) Bool.false_ne_true
  ·
   obtain ⟨rfl,f1⟩:=ve;obtain ⟨q,vs,rfl,h2,r2⟩:=vd;cases ru;rw [hk] at h2;obtain ⟨its,qv,pl,_⟩:=I.list h2;cases y with
   | non=>cases rw';exact ⟨SeqAt.EqAt.list_none pl.isList hu1,SeqAt.RcAt.list_none pl.isList hu1,SeqAt.RcNeAt.list_none pl.isList hu1⟩
   | bl b=>cases rw';exact ⟨SeqAt.EqAt.list_bool b pl.isList hu1,SeqAt.RcAt.list_bool b pl.isList hu1,SeqAt.RcNeAt.list_bool b pl.isList hu1⟩
   | int b=>obtain ⟨t,rfl⟩:=rw';exact ⟨SeqAt.EqAt.list_int b t pl.isList hu1,SeqAt.RcAt.list_int b t pl.isList hu1,SeqAt.RcNeAt.list_int b t pl.isList hu1⟩
   | str b=>obtain ⟨t,rfl⟩:=rw';exact ⟨SeqAt.EqAt.list_str b t pl.isList hu1,SeqAt.RcAt.list_str b t pl.isList hu1,SeqAt.RcNeAt.list_str b t pl.isList hu1⟩
   | _=>exact absurd (show false=true from f1) Bool.false_ne_true
  ·
   obtain ⟨p,vs,rfl,h1,r1⟩:=vd;obtain ⟨q,vs',rfl,h2,r2⟩:=ve;cases ru;cases rw';rw [hk] at h1 h2;obtain ⟨its,q1,p1,_⟩:=I.list h1;obtain ⟨its',q2,p2,_⟩:=I.list h2;have sz1:its.toArray.size=vs.length:=by rw [List.size_toArray];exact q1.length.symm
   have sz2:its'.toArray.size=vs'.length:=by rw [List.size_toArray];exact q2.length.symm
   split at h
   ·rename_i hl;obtain ⟨f,hf,hb⟩:=Us h;have hsz:its.toArray.size=its'.toArray.size:=by rw [sz1,sz2,<-r1.length,<-r2.length];exact hl
    have he:∀j (g1:j < its.toArray.size) (g2:j < its'.toArray.size),SeqAt.EqAt A.in1 s its.toArray[j] its'.toArray[j] (f j):=λj g1 g2=>by obtain ⟨d1,v1,e1,rd1,rv1⟩:=Vb r1 q1 g1;obtain ⟨d2,v2,e2,rd2,rv2⟩:=Vb r2 q2 g2;exact (R1 I hk sm n hu2 rd1 rd2 rv1 rv2 (hf j d1 d2 e1 e2)).1
    have hk':k=(List.range its.toArray.size).all f:=by
     rw [hb]
     congr 2
     rw [sz1,<-r1.length,hl];lia
    have rc:SeqAt.RcAt A s (.ref p) (.ref q) k:=by rw [hk'];exact SeqAt.RcAt.lists p1.isList p2.isList hsz hu1 he
    refine ⟨refs (λe=> ?_) rc,rc,by rw [hk'];exact SeqAt.RcNeAt.lists p1.isList p2.isList hsz hu1 he⟩;subst e;exact same rd re h0
   ·rename_i hl;have h':false=k:=Option.some.inj h;subst h';have hsz:(its.toArray.size != its'.toArray.size)=true:=by rw [bne_iff_ne,sz1,sz2,<-r1.length,<-r2.length];exact hl
    refine ⟨refs (λe=> ?_) (SeqAt.RcAt.lists_lengths p1.isList p2.isList hsz hu1),SeqAt.RcAt.lists_lengths p1.isList p2.isList hsz hu1,SeqAt.RcNeAt.lists_lengths p1.isList p2.isList hsz hu1⟩;subst e;exact same rd re h0
  ·
   obtain ⟨p,vs,rfl,h1,r1⟩:=vd;obtain ⟨q,vs',rfl,h2,r2⟩:=ve;cases ru;cases rw';rw [hk] at h1 h2;obtain ⟨its,q1,p1,_⟩:=I.list h1;obtain ⟨its',q2,p2,_⟩:=I.tuple h2;exact ⟨SeqAt.EqAt.list_tuple p1.isList p2 hu1,SeqAt.RcAt.list_tuple p1.isList p2 hu1,SeqAt.RcNeAt.list_tuple p1.isList p2 hu1⟩
  ·
   obtain ⟨rfl,f1⟩:=ve;obtain ⟨q,vs,rfl,h2,r2⟩:=vd;cases ru;rw [hk] at h2;obtain ⟨its,qv,pl,_⟩:=I.tuple h2;cases y with
   | non=>cases rw';exact ⟨SeqAt.EqAt.tuple_none pl hu1,SeqAt.RcAt.tuple_none pl hu1,SeqAt.RcNeAt.tuple_none pl hu1⟩
   | bl b=>cases rw';exact ⟨SeqAt.EqAt.tuple_bool b pl hu1,SeqAt.RcAt.tuple_bool b pl hu1,SeqAt.RcNeAt.tuple_bool b pl hu1⟩
   | int b=>obtain ⟨t,rfl⟩:=rw';exact ⟨SeqAt.EqAt.tuple_int b t pl hu1,SeqAt.RcAt.tuple_int b t pl hu1,SeqAt.RcNeAt.tuple_int b t pl hu1⟩
   | str b=>obtain ⟨t,rfl⟩:=rw';exact ⟨SeqAt.EqAt.tuple_str b t pl hu1,SeqAt.RcAt.tuple_str b t pl hu1,SeqAt.RcNeAt.tuple_str b t pl hu1⟩
   | _=>exact absurd (show false=true from f1) Bool.false_ne_true
  ·
   obtain ⟨p,vs,rfl,h1,r1⟩:=vd;obtain ⟨q,vs',rfl,h2,r2⟩:=ve;cases ru;cases rw';rw [hk] at h1 h2;obtain ⟨its,q1,p1,_⟩:=I.tuple h1;obtain ⟨its',q2,p2,_⟩:=I.list h2;exact ⟨SeqAt.EqAt.tuple_list p1 p2.isList hu1,SeqAt.RcAt.tuple_list p1 p2.isList hu1,SeqAt.RcNeAt.tuple_list p1 p2.isList hu1⟩
  ·
   rename_i xs ys;obtain ⟨p,vs,rfl,h1,r1⟩:=vd;obtain ⟨q,vs',rfl,h2,r2⟩:=ve;cases ru;cases rw';rw [hk] at h1 h2;obtain ⟨its,q1,p1,_⟩:=I.tuple h1;obtain ⟨its',q2,p2,_⟩:=I.tuple h2;have sz1:its.toArray.size=xs.length:=by rw [List.size_toArray,r1.length];exact q1.length.symm
   have sz2:its'.toArray.size=ys.length:=by rw [List.size_toArray,r2.length];exact q2.length.symm
   split at h
   ·rename_i b hz;have h':(b && xs.length == ys.length)=k:=Option.some.inj h;obtain ⟨f,hf,hb⟩:=Us hz;have he:∀j (g1:j < its.toArray.size) (g2:j < its'.toArray.size),SeqAt.EqAt A.in1 s its.toArray[j] its'.toArray[j] (f j):=λj g1 g2=>by obtain ⟨d1,v1,e1,rd1,rv1⟩:=Vb r1 q1 g1;obtain ⟨d2,v2,e2,rd2,rv2⟩:=Vb r2 q2 g2;exact (R1 I hk sm n hu2 rd1 rd2 rv1 rv2 (hf j d1 d2 e1 e2)).1
    have hk':k=((List.range (min its.toArray.size its'.toArray.size)).all f && its.toArray.size == its'.toArray.size):=by rw [<-h',hb,sz1,sz2]
    have rc:SeqAt.RcAt A s (.ref p) (.ref q) k:=by rw [hk'];exact SeqAt.RcAt.tuples p1 p2 hu1 he
    refine ⟨refs (λe=> ?_) rc,rc,by rw [hk'];exact SeqAt.RcNeAt.tuples p1 p2 hu1 he⟩;subst e;exact same rd re h0
   ·cases h
noncomputable def Fb (d e:D) (G:DH):R D:=match eqD 30 G d e with
 | some k=>.ok (.bl k) G
 | none=>.bad
noncomputable def Iz (d e:D) (G:DH):R D:=match eqD 30 G d e with
 | some k=>.ok (.bl (!k)) G
 | none=>.bad
theorem Gr (hu:X.A.units + 64 < cLine):OpR X (compareOp .Eq) (lR2 X.K E Fb):=by
 intro pins s σ H x y v u Q I rx ry ⟨a,G,d,e,hk,hH,sm,rd,re,q⟩;subst hH;unfold Fb at q;split at q
 ·rename_i k hd;exact (R1 I hk sm 30 (by lia) rd re rx ry hd).2.1 _ _ _ _ ⟨.bl k,a.H,I,rfl,q a _ (Ext.refl a) sm rfl⟩
 ·exact q.elim
theorem Q4 (hu:X.A.units + 64 < cLine):OpR X (compareOp .NotEq) (lR2 X.K E Iz):=by
 intro pins s σ H x y v u Q I rx ry ⟨a,G,d,e,hk,hH,sm,rd,re,q⟩;subst hH;unfold Iz at q;split at q
 ·rename_i k hd;exact (R1 I hk sm 30 (by lia) rd re rx ry hd).2.2 _ _ _ _ ⟨.bl (!k),a.H,I,rfl,q a _ (Ext.refl a) sm rfl⟩
 ·exact q.elim
end
noncomputable abbrev DG:=D->DSt->DH->R DSt
variable {g:DG}
noncomputable def Ed (E:XK) (a:Wd) (r:R DSt) (Q:St->Hp->Prop):Prop:=match r with
 | .ok S G=>∀(b:Wd) (σ:St),Ext a b->Sim b G->RepS b S σ->Q σ b.H
 | .err x G=>XOk E a x G
 | .bad=>False
noncomputable def lG (K:PySem.W.Frag) (E:XK) (t:DG):TG:=λv σ H Q=>∃(a:Wd) (S:DSt) (G:DH) (d:D),a.K=K/\a.H=H/\Sim a G/\RepS a S σ/\Rep a d v/\Ed E a (t d S G) Q
noncomputable def QG (X:Cx) (E:XK) (tg:Expr) (t:DG):Prop:=PG X tg (lG X.K E t)
noncomputable abbrev DGs:=List D->DSt->DH->R DSt
noncomputable def lGs (K:PySem.W.Frag) (E:XK) (t:DGs):TGs:=λvs σ H Q=>∃(a:Wd) (S:DSt) (G:DH) (ds:List D),a.K=K/\a.H=H/\Sim a G/\RepS a S σ/\Reps a ds vs/\Ed E a (t ds S G) Q
noncomputable def QGs (X:Cx) (E:XK) (tg:List Expr) (t:DGs):Prop:=PGs X tg (lGs X.K E t)
noncomputable def gV (i:Nat):DG:=λd S G=>.ok (S.set i (some d)) G
noncomputable def Gz:DGs:=λds S G=>match ds with
 | []=>.ok S G
 | _=>.bad
noncomputable def Bx (t:DG) (u:DGs):DGs:=λds S G=>match ds with
 | d::r=>(t d S G).bind λS1 G1=>u r S1 G1
 | []=>.bad
noncomputable def Ff (n:Nat) (t:DGs):DG:=λd S G=>match d with
 | .tup ds=>if ds.length=n then t ds S G else .bad
 | _=>.bad
theorem Ed.imp {r:R DSt} {Q Q':St->Hp->Prop} (h:Ed E a r Q) (w:∀v H,Q v H->Q' v H):Ed E a r Q':=by
 cases r with
 | ok d G=>exact λb v x s q=>w _ _ (h b v x s q)
 | err e G=>exact h
 | bad=>exact h
theorem Ed.mono (x:Ext a b) {r:R DSt} {Q:St->Hp->Prop} (h:Ed E a r Q):Ed E b r Q:=by
 cases r with
 | ok d G=>exact λc v y s q=>h c v (x.trans y) s q
 | err e G=>exact XOk.mono (E:=E) (e:=e) (G:=G) x h
 | bad=>exact h
theorem ZLM {r:R DSt} {f:DSt->DH->R DSt} {Q:St->Hp->Prop} (h:Ed E a (r.bind f) Q):
  Ed E a r (λσ H=>∃(b:Wd) (S:DSt) (G:DH),b.H=H/\Ext a b/\Sim b G/\RepS b S σ/\r=.ok S G/\Ed E b (f S G) Q):=by
 cases r with
 | ok d G=>exact λb v x s q=>⟨b,d,G,rfl,x,s,q,rfl,Ed.mono x h⟩
 | err e G=>exact h
 | bad=>exact h
theorem ZCa {f:D->DH->R DSt} {Q:St->Hp->Prop} (h:Ed E a (r.bind f) Q):
  out E a r (λv H=>∃(b:Wd) (d:D) (G:DH),b.H=H/\Ext a b/\Sim b G/\Rep b d v/\r=.ok d G/\Ed E b (f d G) Q):=by
 cases r with
 | ok d G=>exact λb v x s q=>⟨b,d,G,rfl,x,s,q,rfl,Ed.mono x h⟩
 | err e G=>exact h
 | bad=>exact h
theorem ZDj {r:R DSt} {f:DSt->DH->SR} (h:Bp E a (r.toS f) W):
  Ed E a r (λσ H=>∃(b:Wd) (S:DSt) (G:DH),b.H=H/\Ext a b/\Sim b G/\RepS b S σ/\r=.ok S G/\Bp E b (f S G) W):=by
 cases r with
 | ok d G=>exact λb v x s q=>⟨b,d,G,rfl,x,s,q,rfl,Bp.mono x h⟩
 | err e G=>exact h
 | bad=>exact h
section
variable {X:Cx} {E:XK}
theorem _root_.L2.PG.mono {t t':TG} (h:PG X e t) (w:∀v σ H Q,t' v σ H Q->t v σ H Q):PG X e t':=λpins s σ H v u Q I r q=>h pins s σ H v u Q I r (w v σ H Q q)
theorem _root_.L2.PGs.mono {e:List Expr} {t t':TGs} (h:PGs X e t) (w:∀v σ H Q,t' v σ H Q->t v σ H Q):PGs X e t':=λpins s σ H v u Q I r q=>h pins s σ H v u Q I r (w v σ H Q q)
theorem Bm (i:Nat) {pos:Pos} (hN:X.N.Nodup) (hi:X.N[i]? =some x:=by rfl) (hx:Loc X.env.scope x:=by first | exact Or.inl rfl | exact Or.inr rfl)
  (hf:X.fn x=true∨X.env.scope.names.lookup x=some .local:=by first | exact .inl rfl | exact .inr rfl | assumption):QG X E (.Name x pos) (gV i):=
 (ZK7 hN hi hx hf).mono λv σ H Q h=>by obtain ⟨a,S,G,d,hk,rfl,s,r,q,h⟩:=h;exact h a _ (Ext.refl a) s (r.set i q)
theorem Qk:QGs X E [] Gz:=ZKq.mono λvs σ H Q h=>by
 obtain ⟨a,S,G,ds,hk,rfl,s,r,q,h⟩:=h;cases ds with
 | nil=>exact ⟨q,h a σ (Ext.refl a) s r⟩
 | cons d ds=>exact h.elim
theorem Ex {es:List Expr} {t:DG} {u:DGs} (h1:QG X E e t) (h2:QGs X E es u)
  (hs:(assignEach (e::es) X.env).map (·.2)=assign e X.env::(assignEach es X.env).map (·.2):=by rfl):QGs X E (e::es) (Bx t u):=(ZD3 h1 h2 hs).mono λvs σ H Q h=>by
 obtain ⟨a,S,G,ds,hk,rfl,s,r,q,h⟩:=h;cases ds with
 | nil=>exact h.elim
 | cons d ds=>
  obtain ⟨v,rest,e1,q1,q2⟩:=q;refine ⟨v,rest,e1,a,S,G,d,hk,rfl,s,r,q1,(ZLM h).imp ?_⟩;rintro σ' _ ⟨b,S1,G1,rfl,x,s1,r1,_,h1⟩;exact ⟨b,S1,G1,ds,x.k.trans hk,rfl,s1,r1,q2.mono x,h1⟩
theorem Qi {es:List Expr} {k:Nat} {t:DGs} {pos:Pos} (hc:X.calm=true) (h:QGs X E es t)
  (hn:(assignEach es X.env).length=n:=by rfl) (hst:(assignEach es X.env).findIdx? (·.1)=none:=by rfl):QG X E (.Tuple es k pos) (Ff n t):=(ZJn hc h hn hst).mono λv σ H Q h=>by
 obtain ⟨a,S,G,d,hk,rfl,s,r,q,h⟩:=h;cases d with
 | tup ds=>
  obtain ⟨p,vs,e,h1,r1⟩:=q;unfold Ff at h;dsimp only at h;split at h
  ·rename_i hl;exact ⟨p,vs,e,by rw [<-hk];exact h1,by rw [<-r1.length];exact hl,a,S,G,ds,hk,rfl,s,r,r1,h⟩
  ·exact h.elim
 | _=>exact h.elim
noncomputable def Gg (o i v:D) (G:DH):R D:=match o,i with
 | .ref p,.int k=>match G[p]? with
  | some (.lst xs)=>match ixN xs.length k with
   | some j=>.ok .non (G.set p (.lst (xs.set j v)))
   | none=>.bad
  | _=>.bad
 | _,_=>.bad
noncomputable def gIx (to ti:DE):DG:=λv S G=>(to S G).bind λo G1=>(ti S G1).bind λi G2=>(Gg o i v G2).bind λ_ G3=>.ok S G3
theorem Za {vs':List V} {ds':List D} (s:Sim a G) (hi:i < a.n) (h:a.H (a.m i)=some (.lst vs)) (r:Reps a ds' vs'):
  Ext a (a.put (a.m i) (.lst vs'))/\Sim (a.put (a.m i) (.lst vs')) (G.set i (.lst ds')):=⟨Ext.wr h,s.wr hi h (r.mono (Ext.wr h))⟩
theorem Ma {o i:Expr} {to ti:DE} {pos:Pos} (ho:QE X E o to) (hi:QE X E i ti)
  (ha:∀v,assign (.Subscript o i pos) X.env v=(do
   let ov<-holding [v] (eval o X.env);let iv<-holding [v,ov] (eval i X.env)
   standAt pos
   holding [v,ov,iv] (setItem ov iv v)
   release [v,ov,iv] []):=by intro _;rfl):QG X E (.Subscript o i pos) (gIx to ti):=(ZIS ho hi set_list ha).mono λv σ H Q h=>by
 obtain ⟨a,S,G,d,hk,rfl,s,r,q,h⟩:=h;refine ⟨a,S,G,hk,rfl,s,r,(ZCa h).imp ?_⟩;rintro ov _ ⟨b,e,G1,rfl,x,s1,q1,_,h1⟩;refine ⟨b,S,G1,x.k.trans hk,rfl,s1,r.mono x,(ZCa h1).imp ?_⟩;rintro iv _ ⟨c,f,G2,rfl,y,s2,q2,_,h2⟩;cases e with
 | ref p=>
  cases f with
  | int k=>
   unfold Gg at h2;dsimp only at h2;split at h2
   ·rename_i xs hx;split at h2
    ·rename_i j hj;obtain ⟨vs,e1,r1⟩:=s2.lst hx;have q1':=q1.mono y;have rv:=(q.mono x).mono y;obtain ⟨x3,s3⟩:=Za s2 q1'.1 e1 (r1.set rv j);refine ⟨c.m p,vs,k,j,q1'.2,q2,e1,by rw [<-r1.length];exact hj,?_⟩;exact h2 _ σ x3 s3 (((r.mono x).mono y).mono x3)
    ·exact h2.elim
   ·exact h2.elim
  | _=>exact h2.elim
 | _=>exact h2.elim
variable {st:Stmt} {rest:List Stmt} {t u:DS} {e:Expr} {te:DE} {pos:Pos}
noncomputable def sNx:DS:=λS G=>.nx S G
noncomputable def Ak (t u:DS):DS:=λS G=>match t S G with
 | .nx S1 G1=>u S1 G1
 | r=>r
noncomputable def sEx (te:DE):DS:=λS G=>(te S G).toS λ_ G1=>.nx S G1
noncomputable def sRt (te:DE):DS:=λS G=>(te S G).toS λd G1=>.rt d G1
noncomputable def sIf (c:DB) (t u:DS):DS:=λS G=>(c S G).toS λk G1=>if k=true then t S G1 else u S G1
noncomputable def sAs (te:DE) (g:DG):DS:=λS G=>(te S G).toS λd G1=>(g d S G1).toS λS2 G2=>.nx S2 G2
theorem Cy:QSs X E [] sNx:=ZGL.mono λW σ H h=>by obtain ⟨a,S,G,hk,rfl,s,r,h⟩:=h;exact h a σ (Ext.refl a) s r
theorem Bp.nxOf {t u:DS} (hk:a.K=K) (h:Bp E a (Ak t u S G) W):Bp E a (t S G) {W with nx:=lS K E u W}:=by
 unfold Ak at h
 revert h
 cases t S G <;> intro h
 ·exact λb σ x s r=>⟨b,_,_,x.k.trans hk,rfl,s,r,Bp.mono x h⟩
 all_goals exact h
theorem Am (h1:QS X E st t) (h2:QSs X E rest u):QSs X E (st::rest) (Ak t u):=(ZD7 h1 h2).mono λW σ H h=>by obtain ⟨a,S,G,hk,rfl,s,r,h⟩:=h;exact ⟨a,S,G,hk,rfl,s,r,h.nxOf hk⟩
theorem Aq (h1:QS X E st t):QSs X E [st] t:=ZJD h1
theorem Hj (he:QE X E e te) (hs:swapsWith e none pos.line X.env=pure false:=by rfl):QS X E (.Expr e pos) (sEx te):=(ZEf he hs).mono λW σ H h=>by obtain ⟨a,S,G,hk,rfl,s,r,h⟩:=h;refine ⟨a,S,G,hk,rfl,s,r,(Hg h).imp ?_⟩;rintro v _ ⟨b,d,G1,rfl,x,s1,q,_,h1⟩;exact h1 b σ (Ext.refl b) s1 (r.mono x)
theorem Bv (he:QE X E e te):QS X E (.Return (some e) pos) (sRt te):=(ZIs he).mono λW σ H h=>by obtain ⟨a,S,G,hk,rfl,s,r,h⟩:=h;refine ⟨a,S,G,hk,rfl,s,r,(Hg h).imp ?_⟩;rintro v _ ⟨b,d,G1,rfl,x,s1,q,_,h1⟩;exact h1 b v (Ext.refl b) s1 q
theorem Cm {c:Expr} {tc:DB} {a b:List Stmt} (hc:QT X E c tc) (ha:QSs X E a t) (hb:QSs X E b u):QS X E (.If c a b pos) (sIf tc t u):=(ZIo hc ha hb).mono λW σ H h=>by
 obtain ⟨a,S,G,hk,rfl,s,r,h⟩:=h;refine ⟨a,S,G,hk,rfl,s,r,(ZCm h).imp ?_⟩;rintro k _ ⟨b,G1,rfl,x,s1,_,h1⟩;cases k with
 | true=>exact ⟨b,S,G1,x.k.trans hk,rfl,s1,r.mono x,h1⟩
 | false=>exact ⟨b,S,G1,x.k.trans hk,rfl,s1,r.mono x,h1⟩
theorem ZGK (h:lS K E (sAs te g) W σ H):ZAE (lE K E te) (lG K E g) W σ H:=by obtain ⟨a,S,G,hk,rfl,s,r,h⟩:=h;refine ⟨a,S,G,hk,rfl,s,r,(Hg h).imp ?_⟩;rintro v _ ⟨b,d,G1,rfl,x,s1,q,_,h1⟩;refine ⟨b,S,G1,d,x.k.trans hk,rfl,s1,r.mono x,q,(ZDj h1).imp ?_⟩;rintro σ' _ ⟨c,S2,G2,rfl,y,s2,r2,_,h2⟩;exact h2 c σ' (Ext.refl c) s2 r2
theorem Jh (he:QE X E e te) (hg:QG X E tg g) (hs:swapsWithSole [tg] e pos.line X.env=pure false:=by rfl) (hw:swappedStores [tg] e X.env=pure none:=by rfl)
  (h1:(assignEach [tg] X.env).map (·.2)= [assign tg X.env]:=by rfl):QS X E (.Assign [tg] e pos) (sAs te g):=(ZJv he hg hs hw h1).mono λ_ _ _ h=>ZGK h
theorem Av (i:Nat) {pos':Pos} (hN:X.N.Nodup) (he:QE X E e te) (hi:X.N[i]? =some x:=by rfl) (hx:Loc X.env.scope x:=by first | exact Or.inl rfl | exact Or.inr rfl) (hs:swapsWith e (some (.Name x pos')) pos.line X.env=pure false:=by rfl)
  (hf:X.fn x=true∨X.env.scope.names.lookup x=some .local:=by first | exact .inl rfl | exact .inr rfl | assumption):QS X E (.Assign [.Name x pos'] e pos) (sAs te (gV i)):=
 (ZGC hN hi hx he hs hf).mono λW σ H h=>by obtain ⟨a,S,G,hk,rfl,s,r,h⟩:=h;refine ⟨a,S,G,hk,rfl,s,r,(Hg h).imp ?_⟩;rintro v _ ⟨b,d,G1,rfl,x,s1,q,_,h1⟩;exact h1 b _ (Ext.refl b) s1 ((r.mono x).set i q)
noncomputable def Qs:D->D->DH->R D
 | .int i,.int j,G=>.ok (.int (i + j)) G
 | .str i,.str j,G=>if i.length + j.length<=1000000 then .ok (.str (i++j)) G else .bad
 | _,_,_=>.bad
theorem ZDv:OpR X (inplaceOp .Add) (lR2 X.K E Qs):=Fq (OpR.or (r:=ipI λi j=>i + j) ZGI ZFA) λa G d e x y Q hk s rd re q=>by
 cases d <;> cases e <;> first
  | exact q.elim
  | exact .inl ⟨_,_,rd,re,q a _ (Ext.refl a) s rfl⟩
  | (
    unfold Qs at q;dsimp only at q;split at q
    ·rename_i hl;exact .inr ⟨_,_,rd,re,Nat.le_trans hl size6,q a _ (Ext.refl a) s rfl⟩
    ·exact q.elim)
theorem ZCZ:OpR X (inplaceOp .Sub) (lR2 X.K E Dg):=Fq (r:=ipI λi j=>i - j) ZGx λa G d e x y Q hk s rd re q=>by
 cases d <;> cases e <;> first
  | exact q.elim
  | exact ⟨_,_,rd,re,q a _ (Ext.refl a) s rfl⟩
end
noncomputable def aft (r:SR) (k:DSt->DH->SR):SR:=match r with
 | .nx S G=>k S G
 | .ct S G=>k S G
 | .bk S G=>.nx S G
 | r=>r
noncomputable def Bu (g:DG) (b:DS):List D->DS
 | [],S,G=>.nx S G
 | x::xs,S,G=>(g x S G).toS λS1 G1=>aft (b S1 G1) (Bu g b xs)
noncomputable def forM (i:Nat) (g:DG) (b:DS):Nat->Nat->DS
 | 0,j,S,G=>match G[i]? with
  | some (.lst xs)=>if xs.length<=j then .nx S G else .bad
  | _=>.bad
 | k + 1,j,S,G=>match G[i]? with
  | some (.lst xs)=>match xs[j]? with
   | some x=>(g x S G).toS λS1 G1=>aft (b S1 G1) (forM i g b k (j + 1))
   | none=>.nx S G
  | _=>.bad
noncomputable def Fx (f:Nat->DH->Option (Option D)) (g:DG) (b:DS):Nat->Nat->DS
 | 0,j,S,G=>match f j G with
  | some none=>.nx S G
  | _=>.bad
 | k + 1,j,S,G=>match f j G with
  | some (some x)=>(g x S G).toS λS1 G1=>aft (b S1 G1) (Fx f g b k (j + 1))
  | some none=>.nx S G
  | none=>.bad
inductive ItD where
 | pure (xs:List D)
 | mt (i:Nat)
 | fn (n:Nat) (f:Nat->DH->Option (Option D))
noncomputable abbrev DI:=DSt->DH->R ItD
noncomputable def Ds (it:DI) (g:DG) (b:DS):DS:=λS G=>(it S G).toS λJ G1=>match J with
 | .pure xs=>Bu g b xs S G1
 | .mt i=>match G1[i]? with
  | some (.lst xs)=>forM i g b xs.length 0 S G1
  | _=>.bad
 | .fn n f=>Fx f g b n 0 S G1
noncomputable def RepI (a:Wd):ItD->It->Prop
 | .pure xs,J=>∃vs:List V,Reps a xs vs/\∀b:Wd,Ext a b->∀i,(∀v,vs[i]? =some v->J.go i b.H/\∀x H',J.yld i b.H x H'->x=v/\H'=b.H)/\(vs.length<=i->J.stop i b.H)
 | .mt k,J=>k < a.n/\∀b:Wd,Ext a b->∀vs,b.H (b.m k)=some (.lst vs)->∀i,(∀v,vs[i]? =some v->J.go i b.H/\∀x H',J.yld i b.H x H'->x=v/\H'=b.H)/\(vs.length<=i->J.stop i b.H)
 | .fn _ f,J=>∀b:Wd,Ext a b->∀G,Sim b G->∀i,(∀d,f i G=some (some d)->J.go i b.H/\∀x H',J.yld i b.H x H'->∃c:Wd,c.H=H'/\Ext b c/\Sim c G/\Rep c d x)/\(f i G=some none->J.stop i b.H)
noncomputable def outI (E:XK) (a:Wd) (r:R ItD) (Q:It->Hp->Prop):Prop:=match r with
 | .ok J G=>∀(b:Wd) (JJ:It),Ext a b->Sim b G->RepI b J JJ->Q JJ b.H
 | .err x G=>XOk E a x G
 | .bad=>False
noncomputable def lI (K:PySem.W.Frag) (E:XK) (t:DI):TI:=λσ H Q=>∃(a:Wd) (S:DSt) (G:DH),a.K=K/\a.H=H/\Sim a G/\RepS a S σ/\outI E a (t S G) Q
noncomputable def QI (X:Cx) (E:XK) (tg iter:Expr) (t:DI):Prop:=PI X tg iter (lI X.K E t)
theorem outI.imp {r:R ItD} {Q Q':It->Hp->Prop} (h:outI E a r Q) (w:∀v H,Q v H->Q' v H):outI E a r Q':=by
 cases r with
 | ok d G=>exact λb v x s q=>w _ _ (h b v x s q)
 | err e G=>exact h
 | bad=>exact h
theorem ZD9 {r:R ItD} {f:ItD->DH->SR} (h:Bp E a (r.toS f) W):
  outI E a r (λJ H=>∃(b:Wd) (d:ItD) (G:DH),b.H=H/\Ext a b/\Sim b G/\RepI b d J/\r=.ok d G/\Bp E b (f d G) W):=by
 cases r with
 | ok d G=>exact λb v x s q=>⟨b,d,G,rfl,x,s,q,rfl,Bp.mono x h⟩
 | err e G=>exact h
 | bad=>exact h
theorem ZBr {r:SR} {k:DSt->DH->SR} (h:Bp E a (aft r k) W):
  Bp E a r {W with
            nx:=λσ H=>∃(b:Wd) (S:DSt) (G:DH),b.H=H/\Ext a b/\Sim b G/\RepS b S σ/\Bp E b (k S G) W,
            ct:=λσ H=>∃(b:Wd) (S:DSt) (G:DH),b.H=H/\Ext a b/\Sim b G/\RepS b S σ/\Bp E b (k S G) W,bk:=W.nx}:=by
 cases r with
 | nx S G=>exact λb σ x s q=>⟨b,S,G,rfl,x,s,q,Bp.mono x h⟩
 | ct S G=>exact λb σ x s q=>⟨b,S,G,rfl,x,s,q,Bp.mono x h⟩
 | bk S G=>exact h
 | rt d G=>exact h
 | err x G=>exact h
 | bad=>exact h
noncomputable def mtF (i j:Nat) (G:DH):Option (Option D):=match G[i]? with
 | some (.lst xs)=>some xs[j]?
 | _=>none
theorem ZB5 {J:It} (r:RepI a (.pure xs) J):RepI a (.fn n λj _=>some xs[j]?) J:=by
 obtain ⟨vs,rv,h⟩:=r;refine λb x G sm i=>⟨λd e=> ?_,λe=> ?_⟩
 ·obtain ⟨v,ev,q⟩:=rv.get (Option.some.inj e);obtain ⟨h1,h2⟩:=(h b x i).1 v ev;refine ⟨h1,λy H' hy=> ?_⟩;obtain ⟨rfl,rfl⟩:=h2 y H' hy;exact ⟨b,rfl,Ext.refl b,sm,q.mono x⟩
 ·exact (h b x i).2 (by rw [<-rv.length];exact List.getElem?_eq_none_iff.mp (Option.some.inj e))
theorem ZBA {J:It} (r:RepI a (.mt k) J):RepI a (.fn n (mtF k)) J:=by
 obtain ⟨hk,h⟩:=r;refine λb x G sm i=> ?_
 unfold mtF;cases hG:G[k]? with
 | none=>exact ⟨λd e=>(by cases e),λe=>(by cases e)⟩
 | some o=>
  cases o with
  | lst xs=>
   obtain ⟨vs,e1,rv⟩:=sm.lst hG;refine ⟨λd e=> ?_,λe=> ?_⟩
   ·obtain ⟨v,ev,q⟩:=rv.get (Option.some.inj e);obtain ⟨h1,h2⟩:=(h b x vs e1 i).1 v ev;refine ⟨h1,λy H' hy=> ?_⟩;obtain ⟨rfl,rfl⟩:=h2 y H' hy;exact ⟨b,rfl,Ext.refl b,sm,q⟩
   ·exact (h b x vs e1 i).2 (by rw [<-rv.length];exact List.getElem?_eq_none_iff.mp (Option.some.inj e))
  | _=>exact ⟨λd e=>(by cases e),λe=>(by cases e)⟩
theorem ZBm {b:DS} :∀(n j:Nat),j + n=xs.length->Bu g b (xs.drop j)=Fx (λj _=>some xs[j]?) g b n j
 | 0,j,h=>by
  funext S G;rw [List.drop_of_length_le (by lia)]
  show SR.nx S G=(match some xs[j]? with | some none=>SR.nx S G | _=>.bad)
  rw [List.getElem?_eq_none (by lia)]
 | n + 1,j,h=>by
  funext S G;have hj:j < xs.length:=by lia
  rw [List.drop_eq_getElem_cons hj]
  show (g xs[j] S G).toS (λS1 G1=>aft (b S1 G1) (Bu g b (xs.drop (j + 1))))=(match some xs[j]? with | some (some x)=>(g x S G).toS (λS1 G1=>aft (b S1 G1) (Fx (λj _=>some xs[j]?) g b n (j + 1))) | some none=>SR.nx S G | none=>.bad)
  rw [List.getElem?_eq_getElem hj,ZBm n (j + 1) (by lia)]
theorem ZDu {b:DS} :∀(n j:Nat),forM i g b n j=Fx (mtF i) g b n j
 | 0,j=>by
  funext S G;unfold forM Fx mtF;cases G[i]? with
  | none=>rfl
  | some o=>
   cases o with
   | lst xs=>
    dsimp only;by_cases hj:j < xs.length
    ·rw [if_neg (by lia),List.getElem?_eq_getElem hj]
    ·rw [if_pos (by lia),List.getElem?_eq_none (by lia)]
   | _=>rfl
 | n + 1,j=>by
  funext S G;unfold forM Fx;rw [ZDu n (j + 1)];unfold mtF;cases G[i]? with
  | none=>rfl
  | some o=>
   cases o with
   | lst xs=>
    dsimp only
    cases xs[j]? <;> rfl
   | _=>rfl
section
variable {X:Cx} {E:XK} {tg iter:Expr} {pos:Pos}
theorem ZE5 {it:DI} {b:DS} (h:lS K E (Ds it g b) W σ H):tFor (lI K E it) (lG K E g) (lS K E b) W σ H:=by
 obtain ⟨a,S,G,hk,rfl,s,r,h⟩:=h;refine ⟨a,S,G,hk,rfl,s,r,(ZD9 h).imp ?_⟩;rintro J _ ⟨a1,d,G1,rfl,x1,s1,q1,_,h1⟩;have k1:a1.K=K:=x1.k.trans hk
 suffices fnc:∃n f,RepI a1 (.fn n f) J/\Bp E a1 (Fx f g b n 0 S G1) W by
  obtain ⟨n,f,q1,h1⟩:=fnc;have walk:∀b:Wd,Ext a1 b->∀G,Sim b G->∀i,(∀d,f i G=some (some d)->J.go i b.H/\∀x H',J.yld i b.H x H'->∃c:Wd,c.H=H'/\Ext b c/\Sim c G/\Rep c d x)/\(f i G=some none->J.stop i b.H):=q1;refine ⟨λi m σ H=>∃(c:Wd) (S:DSt) (G:DH),c.H=H/\Ext a1 c/\Sim c G/\RepS c S σ/\Bp E c (Fx f g b m i S G) W,⟨_,a1,S,G1,rfl,Ext.refl _,s1,r.mono x1,h1⟩,?_⟩;rintro i m σ2 _ ⟨c,S2,G2,rfl,x2,s2,r2,h2⟩
  cases m with
  | zero=>
   unfold Fx at h2;split at h2
   ·rename_i hf;exact .inl ⟨(walk c x2 G2 s2 i).2 hf,h2 c σ2 (Ext.refl c) s2 r2⟩
   ·exact h2.elim
  | succ m=>
   unfold Fx at h2;split at h2
   ·rename_i d hf;obtain ⟨go,yl⟩:=(walk c x2 G2 s2 i).1 d hf;refine .inr ⟨go,λσ' H'=>∃(c:Wd) (S:DSt) (G:DH),c.H=H'/\Ext a1 c/\Sim c G/\RepS c S σ'/\Bp E c (Fx f g b m (i + 1) S G) W,λσ' H' z=>⟨m,Nat.lt_succ_self _,z⟩,λw H' y=> ?_⟩;obtain ⟨cc,rfl,xx,ss,rd⟩:=yl w H' y;refine ⟨cc,S2,G2,d,xx.k.trans (x2.k.trans k1),rfl,ss,r2.mono xx,rd,(ZDj (Bp.mono xx h2)).imp ?_⟩;rintro σ3 _ ⟨c3,S3,G3,rfl,x3,s3,r3,_,h3⟩
    have fin:=ZBr h3;refine ⟨c3,S3,G3,x3.k.trans (xx.k.trans (x2.k.trans k1)),rfl,s3,r3,?_⟩
    revert fin
    cases b S3 G3 with
    | nx S4 G4=>
      intro fin c4 σ4 x4 s4 q4;obtain ⟨c5,S5,G5,hh,x5,s5,r5,h5⟩:=fin c4 σ4 x4 s4 q4;exact ⟨c5,S5,G5,hh,x2.trans (xx.trans (x3.trans x5)),s5,r5,h5⟩
    | ct S4 G4=>
      intro fin c4 σ4 x4 s4 q4;obtain ⟨c5,S5,G5,hh,x5,s5,r5,h5⟩:=fin c4 σ4 x4 s4 q4;exact ⟨c5,S5,G5,hh,x2.trans (xx.trans (x3.trans x5)),s5,r5,h5⟩
    | bk S4 G4=>exact λfin=>fin
    | rt S4 G4=>exact λfin=>fin
    | err S4 G4=>exact λfin=>fin
    | bad=>exact λfin=>fin
   ·rename_i hf;exact .inl ⟨(walk c x2 G2 s2 i).2 hf,h2 c σ2 (Ext.refl c) s2 r2⟩
   ·exact h2.elim
 cases d with
 | pure xs=>
  have h1':Bp E a1 (Bu g b (xs.drop 0) S G1) W:=h1;rw [ZBm xs.length 0 (by lia)] at h1';exact ⟨_,_,ZB5 q1,h1'⟩
 | mt k=>
  dsimp only at h1;split at h1
  ·rw [ZDu] at h1;exact ⟨_,_,ZBA q1,h1⟩
  ·exact h1.elim
 | fn n f=>exact ⟨n,f,q1,h1⟩
theorem Fv {body:List Stmt} {it:DI} {b:DS} (hp:PassesOwn (model X.prog X.w) X.A X.env X.xe) (hc:X.calm=true) (hi:QI X E tg iter it) (hg:QG X E tg g) (hb:QSs X E body b)
  (hs:∀x,foldedSetIterable iter X.env x=pure x:=by intro _;rfl):QS X E (.For tg iter body [] pos) (Ds it g b):=(ZG7 hp hc hi hg hb hs).mono λ_ _ _ h=>ZE5 h
theorem _root_.L2.PI.mono {t t':TI} (h:PI X tg iter t) (w:∀σ H Q,t' σ H Q->t σ H Q):PI X tg iter t':=λpins s σ H Q I q=>h pins s σ H Q I (w σ H Q q)
noncomputable def sgn (c:Nat):D:=.str ⟨#[c]⟩
noncomputable def signs (x:Str):List D:=x.cps.toList.map sgn
noncomputable def Its (x:Str):It:=⟨λi _=>i < x.cps.size,λi H v H'=>H'=H/\∃c,x.cps[i]? =some c/\v=.str ⟨#[c]⟩,λi _=>x.cps.size<=i⟩
theorem ZLF (it:Addr) (x:Str) (t:Tok):Turn P w K tg (Its x) [it] it (λi h=>h.IsStrIter it "str_ascii_iterator" x t i) where
 mem:=by simp
 obj:=λi h st b hb=>by
  have e:b=it:=by simpa using hb
  subst e;obtain ⟨o,e,c,d⟩:=st;exact ⟨o,e,λv z=>by rw [d] at z;cases z⟩
 keep:=λi h h' st k=>let ⟨o,ho,r⟩:=st;⟨o,k it (by simp) o ho,r⟩
 item:=by
  intro X hP hw hK hc i pins s σ H E I hf st hg;subst hP hw hK;obtain ⟨f0,f1,f2,f3,f4,f5⟩:=hf it (by simp);have hi:i < x.cps.size:=hg;refine wpAny_pyNext_ascii_item st (c:=x.cps[i]) (by simp [hi]) λh' st' sb=> ?_
  have I1:Inv X pins σ H {s with heap:=h',toks:=s.toks + 1}:=I.turned (λb o hb e=>(sb.2 b hb).trans e) f0 f1 f3 f4 f5;obtain ⟨o,e,c,d⟩:=id st';exact ⟨_,rfl,Ng (s:={s with heap:=h',toks:=s.toks + 1}) e c d (by decide) ⟨.str ⟨#[x.cps[i]]⟩,H,I1,⟨_,rfl⟩,⟨rfl,_,by simp [hi],rfl⟩,st',λb hb=>(hf b hb).1⟩⟩
 done:=by intro X hP hw hK hc i pins s σ H E I hf st hg;subst hP hw hK;obtain ⟨f0,f1,f2,f3,f4,f5⟩:=hf it (by simp);have hi:x.cps.size<=i:=hg;exact wpAny_pyNext_ascii_end (I.ok.hd hc) st (by simp [hi]) λh' eb=>⟨rfl,I.turned (t':=s.toks) (λb o hb e=>eb b o hb e) f0 f1 f3 f4 f5⟩
 self:=λ_ _ _ _ _ st h=>wpAny_pyIter_striter_ascii st h
theorem ZFO (it:Addr) (x:Str) (t:Tok):Turn P w K tg (Its x) [it] it (λi h=>h.IsStrIter it "str_iterator" x t i) where
 mem:=by simp
 obj:=λi h st b hb=>by
  have e:b=it:=by simpa using hb
  subst e;obtain ⟨o,e,c,d⟩:=st;exact ⟨o,e,λv z=>by rw [d] at z;cases z⟩
 keep:=λi h h' st k=>let ⟨o,ho,r⟩:=st;⟨o,k it (by simp) o ho,r⟩
 item:=by
  intro X hP hw hK hc i pins s σ H E I hf st hg;subst hP hw hK;obtain ⟨f0,f1,f2,f3,f4,f5⟩:=hf it (by simp);have hi:i < x.cps.size:=hg;refine wpAny_pyNext_wide_item st (c:=x.cps[i]) (by simp [hi]) λh' st' sb=> ?_
  have I1:Inv X pins σ H {s with heap:=h',toks:=s.toks + 1}:=I.turned (λb o hb e=>(sb.2 b hb).trans e) f0 f1 f3 f4 f5;obtain ⟨o,e,c,d⟩:=id st';exact ⟨_,rfl,Ng (s:={s with heap:=h',toks:=s.toks + 1}) e c d (by decide) ⟨.str ⟨#[x.cps[i]]⟩,H,I1,⟨_,rfl⟩,⟨rfl,_,by simp [hi],rfl⟩,st',λb hb=>(hf b hb).1⟩⟩
 done:=by intro X hP hw hK hc i pins s σ H E I hf st hg;subst hP hw hK;obtain ⟨f0,f1,f2,f3,f4,f5⟩:=hf it (by simp);have hi:x.cps.size<=i:=hg;exact wpAny_pyNext_wide_end (I.ok.hd hc) st (by simp [hi]) λh' eb=>⟨rfl,I.turned (t':=s.toks) (λb o hb e=>eb b o hb e) f0 f1 f3 f4 f5⟩
 self:=λ_ _ _ _ _ st h=>wpAny_pyIter_striter_wide st h
noncomputable def iStr (tl:TE):TI:=λσ H R=>tl σ H λx H1=>∃z,x=.str z/\R (Its z) H1
theorem ZEI {l:Expr} {tl:TE} (hl:PE X l tl):PI X tg l (iStr tl):=by
 intro pins s σ H R I h;refine thn (hl pins s σ H _ I h) λv s1 ⟨x,H1,I1,r1,q1⟩=> ?_
 obtain ⟨z,e,q⟩:=q1;subst e;obtain ⟨t,rfl⟩:=r1;have fp:∀b∈ [s1.heap.objs.size],FpOk X pins H1 b:=λb hb=>by
  have e:b=s1.heap.objs.size:=by simpa using hb
  subst e;exact I1.Hy (Nat.le_refl _) (I1.hok.fresh (Nat.le_refl _))
 cases ha:z.cps.all (· < 128)
 ·refine wpAny_pyIter_wide ha ?_;exact ⟨s1.heap.objs.size,[s1.heap.objs.size],_,_,H1,rfl,I1.kept (t':=s1.toks) λb o e=>Heap.get?_push_of_some _ e,ZFO _ z t,⟨_,Heap.get?_push_size _ rfl,rfl,rfl⟩,fp,q⟩
 ·refine wpAny_pyIter_ascii ha ?_;exact ⟨s1.heap.objs.size,[s1.heap.objs.size],_,_,H1,rfl,I1.kept (t':=s1.toks) λb o e=>Heap.get?_push_of_some _ e,ZLF _ z t,⟨_,Heap.get?_push_size _ rfl,rfl,rfl⟩,fp,q⟩
theorem Reps.signs (x:Str):Reps a (signs x) (x.cps.toList.map λc=>V.str ⟨#[c]⟩):=by
 unfold DL.signs
 induction x.cps.toList with
 | nil=>exact rfl
 | cons c r ih=>exact ⟨_,_,rfl,rfl,ih⟩
noncomputable def Em:D->DH->R ItD
 | .tup xs,G=>.ok (.pure xs) G
 | .str x,G=>.ok (.pure (signs x)) G
 | .fl xs,G=>.ok (.pure xs) G
 | .ref i,G=>match G[i]? with
  | some (.lst _)=>.ok (.mt i) G
  | _=>.bad
 | _,_=>.bad
noncomputable def Eg (te:DE):DI:=λS G=>(te S G).bind Em
theorem Gx (he:QE X E iter te):QI X E tg iter (Eg te):=by
 intro pins s σ H R I h;obtain ⟨a,S,G,hk,rfl,sm,r,h⟩:=h;cases ht:te S G with
 | bad=>
  have h':outI E a ((te S G).bind Em) R:=h;rw [ht] at h';exact h'.elim
 | err e G1=>
  have h':outI E a ((te S G).bind Em) R:=h;rw [ht] at h';refine Xj (tg:=tg) he pins s σ a.H R I ⟨a,S,G,hk,rfl,sm,r,?_⟩;rw [ht];exact h'
 | ok d G1=>
  have h':outI E a ((te S G).bind Em) R:=h;rw [ht] at h';cases d with
  | tup xs=>
   refine ZHs (tg:=tg) he pins s σ a.H R I ⟨a,S,G,hk,rfl,sm,r,?_⟩;rw [ht];rintro b v x sb ⟨p,vs,rfl,hq,rv⟩;have hq':SqT X.K b.H p vs:=by rw [<-hk,<-x.k];exact hq
   refine ⟨p,rfl,⟨vs,hq'⟩,h' b _ x sb ⟨vs,rv,λc y i=>⟨λv hv=>⟨⟨vs,v,?_,hv⟩,λw H' z=> ?_⟩,λhl=>⟨vs,?_,hl⟩⟩⟩⟩
   ·have:=y.sqT hq;rw [y.k,x.k,hk] at this;exact this
   ·have:=y.sqT hq;rw [y.k,x.k,hk] at this;exact ⟨Option.some.inj ((z.2 vs this).symm.trans hv),z.1⟩
   ·have:=y.sqT hq;rw [y.k,x.k,hk] at this;exact this
  | fl xs=>
   refine Xj (tg:=tg) he pins s σ a.H R I ⟨a,S,G,hk,rfl,sm,r,?_⟩;rw [ht];rintro b v x sb ⟨p,vs,rfl,hq,rv⟩;have hq':SqL X.K b.H p vs:=by rw [<-hk,<-x.k];exact hq.sq
   refine ⟨p,rfl,⟨vs,hq'⟩,h' b _ x sb ⟨vs,rv,λc y i=>⟨λv hv=>⟨⟨vs,v,?_,hv⟩,λw H' z=> ?_⟩,λhl=>⟨vs,?_,hl⟩⟩⟩⟩
   ·have:=(y.fzL hq).sq;rw [y.k,x.k,hk] at this;exact this
   ·have:=(y.fzL hq).sq;rw [y.k,x.k,hk] at this;exact ⟨Option.some.inj ((z.2 vs this).symm.trans hv),z.1⟩
   ·have:=(y.fzL hq).sq;rw [y.k,x.k,hk] at this;exact this
  | ref k=>
   have h2:outI E a (Em (.ref k) G1) R:=h';unfold Em at h2;dsimp only at h2;split at h2
   ·rename_i xs hx;refine Xj (tg:=tg) he pins s σ a.H R I ⟨a,S,G,hk,rfl,sm,r,?_⟩;rw [ht];rintro b v x sb ⟨hkn,rfl⟩;obtain ⟨vs,hx,_⟩:=sb.lst hx;refine ⟨b.m k,rfl,⟨vs,.of hx⟩,h2 b _ x sb ⟨hkn,λc y us hu i=> ?_⟩⟩;rw [y.m k hkn] at hu;exact ⟨λv hv=>⟨⟨us,v,.of hu,hv⟩,λw H' z=>⟨Option.some.inj ((z.2 us (.of hu)).symm.trans hv),z.1⟩⟩,λhl=>⟨us,.of hu,hl⟩⟩
   ·exact h2.elim
  | str z=>
   refine ZEI (tg:=tg) he pins s σ a.H R I ⟨a,S,G,hk,rfl,sm,r,?_⟩;rw [ht];intro b v x sb rv
   cases (show v=V.str z from rv)
   refine ⟨z,rfl,h' b _ x sb ⟨_,Reps.signs z,λc y i=>⟨λv hv=> ?_,λhl=> ?_⟩⟩⟩
   ·rw [List.getElem?_map,Option.map_eq_some_iff] at hv;obtain ⟨k,hk1,rfl⟩:=hv;have hk2:z.cps[i]? =some k:=by rw [<-Array.getElem?_toList];exact hk1
    refine ⟨(Array.getElem?_eq_some_iff.mp hk2).1,λw H' q=> ?_⟩;obtain ⟨e1,k',e2,e3⟩:=q;rw [hk2] at e2;cases e2;exact ⟨e3,e1⟩
   ·rw [List.length_map,Array.length_toList] at hl;exact hl
  | _=>exact h'.elim
end
noncomputable def Bf (lo:Int) (n:Nat):List D:=(List.range n).map λ(k:Nat)=>D.int (lo + (k:Int))
noncomputable def inR (j:Int):Prop:= -(2 ^ 62)<=j/\j < 2 ^ 62
noncomputable instance (j:Int):Decidable (inR j):=by unfold inR;infer_instance
noncomputable def rng1 (ds:List D) (G:DH):R ItD:=match ds with
 | [.int j]=>if inR j then .ok (.pure (Bf 0 j.toNat)) G else .bad
 | _=>.bad
noncomputable def Do (f:List D->DH->R ItD) (ta:DA):DI:=λS G=>(ta S G).bind f
noncomputable def sWh (c:DB) (b:DS):Nat->DS
 | 0,_,_=>.bad
 | n + 1,S,G=>(c S G).toS λk G1=>if k=true then aft (b S G1) (sWh c b n) else .nx S G1
noncomputable def Bt (np nl:Nat) (b:DS):List D->DH->R D:=λds G=>if ds.length=np then tidy G (match b (ds.map some++List.replicate nl none) G with
 | .nx _ G'=>.ok .non G'
 | .rt d G'=>.ok d G'
 | .err x G'=>.err x G'
 | _=>.bad) else .bad
theorem outI.mono (x:Ext a b) {r:R ItD} {Q:It->Hp->Prop} (h:outI E a r Q):outI E b r Q:=by
 cases r with
 | ok d G=>exact λc v y s q=>h c v (x.trans y) s q
 | err e G=>exact XOk.mono (E:=E) (e:=e) (G:=G) x h
 | bad=>exact h
theorem Qw {r:R (List D)} {f:List D->DH->R ItD} {Q:It->Hp->Prop} (h:outI E a (r.bind f) Q):
  Bj E a r (λvs H=>∃(b:Wd) (ds:List D) (G:DH),b.H=H/\Ext a b/\Sim b G/\Reps b ds vs/\r=.ok ds G/\outI E b (f ds G) Q):=by
 cases r with
 | ok d G=>exact λb v x s q=>⟨b,d,G,rfl,x,s,q,rfl,outI.mono x h⟩
 | err e G=>exact h
 | bad=>exact h
section
variable {X:Cx} {E:XK} {tg iter:Expr} {pos:Pos}
theorem ZHt (lo:Int) (n:Nat):RepI a (.pure (Bf lo n)) (Itr lo n):=by
 refine ⟨(List.range n).map λ(k:Nat)=>V.int (lo + (k:Int)),?_,λb x i=>⟨λv hv=> ?_,λhl=> ?_⟩⟩
 ·unfold Bf;generalize List.range n=l
  induction l with
  | nil=>exact rfl
  | cons k l ih=>exact ⟨_,_,rfl,rfl,ih⟩
 ·rw [List.getElem?_map] at hv;by_cases hi:i < n
  ·rw [List.getElem?_range hi] at hv;have hv':V.int (lo + (i:Int))=v:=by simpa using hv
   exact ⟨hi,λw H' y=>⟨y.2.trans hv',y.1⟩⟩
  ·rw [List.getElem?_eq_none (by simpa using hi)] at hv;cases hv
 ·show n<=i;simpa using hl
theorem Hx {ta:DA} {p pos:Pos} (hg:Gl X "range") (hm:X.mg "range"=none) (ha:QA X E [e] ta) (hs:starEach [e] X.env= [(false,eval e X.env)]:=by rfl):QI X E tg (.Call (.Name "range" p) [e] [] pos) (Do rng1 ta):=
 (ZHp hg hm ha hs).mono λσ H Q h=>by
  obtain ⟨a,S,G,hk,rfl,s,r,h⟩:=h;refine ⟨a,S,G,hk,rfl,s,r,(Qw h).imp ?_⟩;rintro vs _ ⟨b,ds,G1,rfl,x,s1,q,-,h1⟩;unfold rng1 at h1;split at h1
  ·rename_i j;split at h1
   ·rename_i hj;obtain ⟨v,r,e1,q1,q2⟩:=q
    cases (show v=V.int j from q1)
    cases (show r= [] from q2)
    exact ⟨j,e1,hj.1,hj.2,h1 b _ (Ext.refl b) s1 (ZHt 0 j.toNat)⟩
   ·exact h1.elim
  ·exact h1.elim
theorem ZCl (n:Nat) {c:Expr} {body:List Stmt} {tc:DB} {tb:DS} (hp:PassesOwn (model X.prog X.w) X.A X.env X.xe) (hc:QT X E c tc) (hb:QSs X E body tb):QS X E (.While c body [] pos) (sWh tc tb n):=(ZG1 hp hc hb).mono λW σ H h=>by
 obtain ⟨a,S,G,hk,rfl,s,r,h⟩:=h;refine ⟨λm σ H=>∃(b:Wd) (S:DSt) (G:DH),b.H=H/\Ext a b/\Sim b G/\RepS b S σ/\Bp E b (sWh tc tb m S G) W,⟨n,a,S,G,rfl,Ext.refl a,s,r,h⟩,?_⟩;rintro m σ2 _ ⟨b,S2,G2,rfl,x2,s2,r2,h2⟩;cases m with
 | zero=>exact h2.elim
 | succ m=>
  refine ⟨b,S2,G2,x2.k.trans hk,rfl,s2,r2,(ZCm h2).imp ?_⟩;rintro k _ ⟨c3,G3,rfl,x3,s3,_,h3⟩;cases k with
  | false=>exact h3 c3 σ2 (Ext.refl c3) s3 (r2.mono x3)
  | true=>
   refine ⟨λσ' H'=>∃(b:Wd) (S:DSt) (G:DH),b.H=H'/\Ext a b/\Sim b G/\RepS b S σ'/\Bp E b (sWh tc tb m S G) W,λσ' H' z=>⟨m,Nat.lt_succ_self _,z⟩,c3,S2,G3,x3.k.trans (x2.k.trans hk),rfl,s3,r2.mono x3,?_⟩;have fin:=ZBr h3
   revert fin
   cases tb S2 G3 with
   | nx S4 G4=>
    intro fin c4 σ4 x4 s4 q4;obtain ⟨c5,S5,G5,hh,x5,s5,r5,h5⟩:=fin c4 σ4 x4 s4 q4;exact ⟨c5,S5,G5,hh,x2.trans (x3.trans x5),s5,r5,h5⟩
   | ct S4 G4=>
    intro fin c4 σ4 x4 s4 q4;obtain ⟨c5,S5,G5,hh,x5,s5,r5,h5⟩:=fin c4 σ4 x4 s4 q4;exact ⟨c5,S5,G5,hh,x2.trans (x3.trans x5),s5,r5,h5⟩
   | bk S4 G4=>exact λfin=>fin
   | rt S4 G4=>exact λfin=>fin
   | err S4 G4=>exact λfin=>fin
   | bad=>exact λfin=>fin
end
theorem ZDf (r:Reps a ds vs) (n m:Nat) (h:n=m):RepS a (ds.map some++List.replicate n none) (vs.map some++List.replicate m none):=by
 subst h;refine ⟨by simp [r.length],λi d hd=> ?_⟩;by_cases hi:i < ds.length
 ·rw [List.getElem?_append_left (by simpa using hi),List.getElem?_map] at hd;cases e:ds[i]? with
  | none=>rw [e] at hd;cases hd
  | some d'=>
   rw [e] at hd;have hd':d'=d:=by simpa using hd
   subst hd';obtain ⟨v,ev,q⟩:=r.get e;exact ⟨v,by rw [List.getElem?_append_left (by rw [List.length_map,<-r.length];exact hi),List.getElem?_map,ev];rfl,q⟩
 ·rw [List.getElem?_append_right (by simpa using hi),List.getElem?_replicate] at hd
  split at hd <;> cases hd
theorem Dh {mg:Str->Option Value} {base:Heap} {qual:Str} {st:Stmt} {f:Addr} {fd:FuncData} {N ps:List Str} {b:DS} (F:Fun K x qual st f fd) (S:FnScope N ps (Az st))
  (hbody:∀(cdv:Value) (A:Around) (outer:List Env) (s:Shared) (H:Hp) (E:XK),Room k (A.deeper (envOfC qual (Az st) s.heap.objs.size f cdv))->QSs (Jv CX0 P w K mg base N qual (Az st) f cdv A outer s H E).nox E0 (H9 st) b):
  FnOk P w K mg base CX0 (k + 1) f fd ps (lF K (Bt ps.length (N.length - ps.length) b)):=by
 have hlen:∀vs H Q E,lF K (Bt ps.length (N.length - ps.length) b) vs H Q E->vs.length=ps.length:=λvs H Q E h=>by
  obtain ⟨a,G,ds,hk,rfl,sm,r,h⟩:=h;unfold Bt at h;split at h
  ·rename_i hl;rw [<-r.length];exact hl
  ·exact h.elim
 refine F.ok S hlen (λcdv A outer s H vs Q E hr h=> ?_);refine ⟨lS K E0 b,hbody cdv A outer s H E hr,?_⟩;have hl:=hlen vs H Q E h;obtain ⟨a,G,ds,hk,rfl,sm,r,h⟩:=h;unfold Bt at h;split at h
 ·have h2:=Xc sm h;refine ⟨a,ds.map some++List.replicate (N.length - ps.length) none,G,hk,rfl,sm,ZDf r _ _ (by rw [hl]),?_⟩
  revert h2
  cases b (ds.map some++List.replicate (N.length - ps.length) none) G with
  | nx S1 G1=>exact λh2 c σ x s1 _=>h2 c .non x s1 rfl
  | rt d G1=>exact λh2=>h2
  | err e G1=>exact λh2=>h2
  | bk S1 G1=>exact λh2=>h2.elim
  | ct S1 G1=>exact λh2=>h2.elim
  | bad=>exact λh2=>h2
 ·exact h.elim
theorem Ms {x:V} (s:Sim a G) (r:Rep a d x) (h:Br d G=some xs):∃p vs,x=.ref p/\(SqL a.K a.H p vs∨SqT a.K a.H p vs)/\Reps a xs vs:=by
 cases d with
 | tup ys=>
  have e:ys=xs:=Option.some.inj h;subst e;obtain ⟨p,vs,e,q,rr⟩:=r;exact ⟨p,vs,e,.inr q,rr⟩
 | fl ys=>
  have e:ys=xs:=Option.some.inj h;subst e;obtain ⟨p,vs,e,q,rr⟩:=r;exact ⟨p,vs,e,.inl q.sq,rr⟩
 | ref i=>
  unfold Br at h;dsimp only at h;split at h
  ·rename_i ys hi;have e:ys=xs:=Option.some.inj h;subst e;obtain ⟨vs,e1,r1⟩:=s.lst hi;exact ⟨a.m i,vs,r.2,.inl (.of e1),r1⟩
  ·cases h
 | _=>cases h
noncomputable def An (d e:D) (G:DH):R D:=match e with
 | .int i=>match d with
  | .str z=>if z.length<=1000000 then (match atI z.cps.toList i with
    | some c=>.ok (.str ⟨#[c]⟩) G
    | none=>.bad) else .bad
  | d=>match Br d G with
   | some xs=>match atI xs i with
    | some v=>.ok v G
    | none=>.bad
   | none=>.bad
 | _=>.bad
theorem ZBt {i:Int} (r:Reps a xs vs) (h:atI xs i=some d):∃v,atI vs i=some v/\Rep a d v:=by
 unfold atI at h ⊢;rw [<-r.length];cases e:ixN xs.length i with
 | none=>rw [e] at h;cases h
 | some j=>
  rw [e] at h
  obtain ⟨v,ev,q⟩:=r.get (show xs[j]? =some d from h)
  exact ⟨v,ev,q⟩
section
variable {X:Cx} {E:XK}
theorem _root_.L2.IxR.mono {r r':R2} (h:IxR X r) (w:∀x y H Q,r' x y H Q->r x y H Q):IxR X r':=λvalue slice pins s σ H x y v u Q I rx ry q hs=>h value slice pins s σ H x y v u Q I rx ry (w _ _ _ _ q) hs
theorem _root_.L2.CallR.mono {f:Value} {r r':List V->Hp->VK->Prop} (h:CallR X f r) (w:∀xs H Q,r' xs H Q->r xs H Q):CallR X f r':=λpins s σ H xs us Q I rs q=>h pins s σ H xs us Q I rs (w _ _ _ q)
theorem _root_.L2.MtM.mono {id:String} {r r':V->List V->Hp->VK->Prop} (h:MtM X id r) (w:∀x xs H Q,r' x xs H Q->r x xs H Q):MtM X id r':=λpins s σ H x xs v us Q I rx rs q=>h pins s σ H x xs v us Q I rx rs (w _ _ _ _ q)
theorem Aw:IxR X (lR2 X.K E An):=ZJj.mono λx y H Q h=>by
 obtain ⟨a,G,d,e,hk,rfl,s,rd,re,q⟩:=h;cases e with
 | int i=>
  have fin:∀{xs:List D},Br d G=some xs->out E a (match atI xs i with | some v=>.ok v G | none=>.bad) Q->rIx X.K x y a.H Q:=λ{xs} hs q=>by
   obtain ⟨p,vs,e1,h1,r1⟩:=Ms s rd hs;rw [hk] at h1;split at q
   ·rename_i v hv;obtain ⟨u,hu,ru⟩:=ZBt r1 hv;have z:=q a u (Ext.refl a) s ru;rcases h1 with h1 | h1
    ·exact .inl ⟨p,vs,i,u,e1,re,h1,hu,z⟩
    ·exact .inr (.inl ⟨p,vs,i,u,e1,re,h1,hu,z⟩)
   ·exact q.elim
  have fin':out E a (match Br d G with | some xs=>(match atI xs i with | some v=>.ok v G | none=>.bad) | none=>.bad) Q->rIx X.K x y a.H Q:=λq=>by
   cases hs:Br d G with
   | none=>rw [hs] at q;exact q.elim
   | some xs=>rw [hs] at q;exact fin hs q
  cases d with
  | str z=>
   unfold An at q;dsimp only at q;split at q
   ·rename_i hl;split at q
    ·rename_i c hc;exact .inr (.inr ⟨z,i,c,rd,re,Nat.le_trans hl size6,hc,q a _ (Ext.refl a) s rfl⟩)
    ·exact q.elim
   ·exact q.elim
  | tup ys=>exact fin' q
  | fl ys=>exact fin' q
  | ref j=>exact fin' q
  | _=>exact fin' q
 | _=>exact q.elim
noncomputable def Dl (ds:List D) (G:DH):R D:=match ds with
 | [.str z]=>if z.length<=1000000 then .ok (.int z.length) G else .bad
 | [d]=>match Br d G with
  | some xs=>.ok (.int xs.length) G
  | none=>.bad
 | _=>.bad
theorem reps1 (r:Reps a [d] vs):∃v,vs= [v]/\Rep a d v:=by
 obtain ⟨v,r',e,q,z⟩:=r
 cases (show r'= [] from z)
 exact ⟨v,e,q⟩
theorem reps2 {d':D} (r:Reps a [d,d'] vs):∃v v',vs= [v,v']/\Rep a d v/\Rep a d' v':=by obtain ⟨v,r',e,q,z⟩:=r;obtain ⟨v',e',q'⟩:=reps1 z;subst e';exact ⟨v,v',e,q,q'⟩
theorem Hm:CallR X (.builtin "len") (lRn X.K E Dl):=(ZGH.or ZEa).mono λvs H Q h=>by
 obtain ⟨a,G,ds,hk,rfl,s,r,q⟩:=h;unfold Dl at q;split at q
 ·rename_i z;split at q
  ·rename_i hl;obtain ⟨v,rfl,rv⟩:=reps1 r
   cases (show v=V.str z from rv)
   exact .inr ⟨z,rfl,Nat.le_trans hl size6,q a _ (Ext.refl a) s rfl⟩
  ·exact q.elim
 ·rename_i d _;split at q
  ·rename_i xs hs;obtain ⟨v,rfl,rv⟩:=reps1 r;obtain ⟨p,us,rfl,h1,r1⟩:=Ms s rv hs;rw [hk] at h1;exact .inl ⟨p,us,rfl,h1,q a _ (Ext.refl a) s (by rw [<-r1.length];exact rfl)⟩
  ·exact q.elim
 ·exact q.elim
noncomputable def J9 (ds:List D) (G:DH):R D:=match ds with
 | [.str z]=>if z.length<=1000000 then .ok (.ref G.length) (G++ [.lst (signs z)]) else .bad
 | [d]=>match Br d G with
  | some xs=>.ok (.ref G.length) (G++ [.lst xs])
  | none=>.bad
 | _=>.bad
theorem Zj:∀{vs:List V} {us:List Value},vs.length=us.length->(∀(i:Nat) (v:V) (u:Value),vs[i]? =some v->us[i]? =some u->RelV v u)->Vals vs us
 | [],[],_,_=>.nil
 | [],_::_,h,_=>by cases h
 | _::_,[],h,_=>by cases h
 | v::vs,u::us,h,f=>.cons (f 0 v u rfl rfl) (Zj (by simpa using h) λi v' u' h1 h2=>f (i + 1) v' u' (by simpa using h1) (by simpa using h2))
theorem ZGn (hc:X.calm=true):CallR X (.type "list") (λxs H Q=>∃z:Str,xs= [.str z]/\z.length<=sizeLine/\∀l,H l=none->Q (.ref l) (upd H l (.lst (z.cps.toList.map λc=>V.str ⟨#[c]⟩)))):=by
 intro pins s σ H xs us Q I r h;obtain ⟨z,rfl,hz,q⟩:=h;obtain ⟨u,rfl,t,rfl⟩:=vals1 r;refine PySem.call_list_str (I.ok.hd hc) z t (λh' tk acc c hk hS hacc=> ?_) hz;have hn:H s.heap.objs.size=none:=I.hok.fresh (Nat.le_refl _);refine ⟨.ref s.heap.objs.size,upd H s.heap.objs.size (.lst (z.cps.toList.map λc=>V.str ⟨#[c]⟩)),I.laid (t':=tk) (h':=h') hk (Nat.le_refl _) ?_,rfl,q _ hn⟩;refine ⟨by rw [List.length_map,Array.length_toList];exact hz,acc.toList,c,Zj ?_ λi v u h1 h2=> ?_,by simpa using hS⟩
 ·rw [List.length_map,Array.length_toList,Array.length_toList];exact hacc.1.symm
 ·rw [List.getElem?_map,Option.map_eq_some_iff] at h1;obtain ⟨k,e1,rfl⟩:=h1;obtain ⟨k',t',e2,rfl⟩:=hacc.2 i u (by rw [<-Array.getElem?_toList];exact h2);rw [Array.getElem?_toList,e2] at e1;cases e1;exact ⟨t',rfl⟩
theorem Ui (hc:X.calm=true):CallR X (.type "list") (lRn X.K E J9):=(ZGO.or (ZGn hc)).mono λvs H Q h=>by
 obtain ⟨a,G,ds,hk,rfl,s,r,q⟩:=h;unfold J9 at q;split at q
 ·rename_i z;split at q
  ·rename_i hl;obtain ⟨v,rfl,rv⟩:=reps1 r
   cases (show v=V.str z from rv)
   exact .inr ⟨z,rfl,Nat.le_trans hl size6,λl hl=>Ls s (Reps.signs z) q l hl⟩
  ·exact q.elim
 ·rename_i d _;split at q
  ·rename_i xs hs;obtain ⟨v,rfl,rv⟩:=reps1 r;obtain ⟨p,us,rfl,h1,r1⟩:=Ms s rv hs;exact .inl ⟨p,us,rfl,by rw [<-hk];exact h1,λl hl=>Ls s r1 q l hl⟩
  ·exact q.elim
 ·exact q.elim
noncomputable def Uw (ds:List D) (G:DH):R D:=match ds with
 | [.int i,.int j]=>.ok (.int (if j > i then j else i)) G
 | _=>.bad
noncomputable def Lr (ds:List D) (G:DH):R D:=match ds with
 | [.int i,.int j]=>.ok (.int (if j < i then j else i)) G
 | _=>.bad
theorem ZEc (hc:X.calm=true):CallR X (.builtin "max") (lRn X.K E Uw):=(ZKH hc).mono λvs H Q h=>by
 obtain ⟨a,G,ds,hk,rfl,s,r,q⟩:=h;unfold Uw at q;split at q
 ·obtain ⟨v,v',rfl,h1,h2⟩:=reps2 r
  cases (show v=V.int _ from h1)
  cases (show v'=V.int _ from h2)
  exact ⟨_,_,rfl,q a _ (Ext.refl a) s rfl⟩
 ·exact q.elim
theorem T3 (hc:X.calm=true):CallR X (.builtin "min") (lRn X.K E Lr):=(ZJZ hc).mono λvs H Q h=>by
 obtain ⟨a,G,ds,hk,rfl,s,r,q⟩:=h;unfold Lr at q;split at q
 ·obtain ⟨v,v',rfl,h1,h2⟩:=reps2 r
  cases (show v=V.int _ from h1)
  cases (show v'=V.int _ from h2)
  exact ⟨_,_,rfl,q a _ (Ext.refl a) s rfl⟩
 ·exact q.elim
noncomputable def Q5 (ds:List D) (G:DH):R D:=match ds with
 | [.int i]=>.ok (.int i) G
 | [.bl k]=>.ok (.int (if k then 1 else 0)) G
 | _=>.bad
theorem ZAi:CallR X (.type "int") (lRn X.K E Q5):=ZLG.mono λvs H Q h=>by
 obtain ⟨a,G,ds,hk,rfl,s,r,q⟩:=h;unfold Q5 at q;split at q
 ·obtain ⟨v,rfl,h1⟩:=reps1 r
  cases (show v=V.int _ from h1)
  exact .inl ⟨_,rfl,q a _ (Ext.refl a) s rfl⟩
 ·obtain ⟨v,rfl,h1⟩:=reps1 r
  cases (show v=V.bl _ from h1)
  exact .inr ⟨_,rfl,q a _ (Ext.refl a) s rfl⟩
 ·exact q.elim
noncomputable def Fp (o:D) (ds:List D) (G:DH):R D:=match o,ds with
 | .ref i,[d]=>match G[i]? with
  | some (.lst xs)=>if xs.length < 1000000 then .ok .non (G.set i (.lst (xs++ [d]))) else .bad
  | _=>.bad
 | _,_=>.bad
noncomputable def lRm (K:PySem.W.Frag) (E:XK) (f:D->List D->DH->R D):V->List V->Hp->VK->Prop:=λx xs H Q=>∃(a:Wd) (G:DH) (d:D) (ds:List D),a.K=K/\a.H=H/\Sim a G/\Rep a d x/\Reps a ds xs/\out E a (f d ds G) Q
theorem Sim.isList (s:Sim a G) (h:G[i]? =some (.lst xs)):∃vs,SqL a.K a.H (a.m i) vs:=let ⟨vs,e,_⟩:=s.lst h;⟨vs,.of e⟩
theorem M7:MtM X "list.append" (lRm X.K E Fp):=ZEQ.mono λx xs H Q h=>by
 obtain ⟨a,G,d,ds,hk,rfl,s,rd,r,q⟩:=h;unfold Fp at q;split at q
 ·rename_i i d;obtain ⟨v,rfl,rv⟩:=reps1 r;split at q
  ·rename_i ys hy;split at q
   ·rename_i hl;obtain ⟨vs,e1,r1⟩:=s.lst hy;obtain ⟨x3,s3⟩:=Za s rd.1 e1 (r1.append (Reps.cons rv Reps.nil));refine ⟨a.m i,vs,v,rd.2,rfl,e1,by rw [<-r1.length];exact Nat.lt_of_lt_of_le hl size6,?_⟩;exact q _ .non x3 s3 rfl
   ·exact q.elim
  ·exact q.elim
 ·exact q.elim
variable {o e:Expr} {es:List Expr} {to:DE} {t:DA} {name:Str} {apos cpos:Pos} {T id:String} {f:D->List D->DH->R D}
noncomputable def isL (d:D) (G:DH):Bool:=match d with
 | .ref i=>match G[i]? with
  | some (.lst _)=>true
  | _=>false
 | .fl _=>true
 | _=>false
noncomputable def Jq (f:D->List D->DH->R D) (o:DE) (t:DA):DE:=λS G=>(o S G).bind λx G1=>if isL x G1=true then (t S G1).bind λxs G2=>f x xs G2 else .bad
theorem ZFV {x:V} (s:Sim a G) (r:Rep a d x) (h:isL d G=true):tyV a.K "list" x a.H:=by
 cases d with
 | ref i=>
  unfold isL at h;dsimp only at h;split at h
  ·rename_i xs hx;cases r.2;exact .inl ⟨rfl,s.isList hx⟩
  ·cases h
 | fl xs=>
  obtain ⟨p,vs,rfl,q,_⟩:=r;exact .inl ⟨rfl,vs,q.sq⟩
 | _=>cases h
theorem Mp (slot:Slot "list" name id) (hty:typeOf (.builtin id)=pure (.type "method_descriptor")) (hm:MtM X id (lRm X.K E f)) (ho:QE X E o to) (ha:QA X E (e::es) t)
  (hbase:attributeBase o name X.env (eval o X.env)=eval o X.env:=by rfl)
  (hfew:((backTo cpos (starEach (e::es) X.env)).all (λx=> !x.1) && (backToKw cpos (keywordEach [] X.env)).all (λx=>x.1.isSome)
   && decide ((e::es).length + ([]:List Keyword).length + (if ([]:List Keyword).isEmpty then 0 else 1) < 30))=true:=by rfl)
  (hline:(apos.endLine == cpos.line)=true:=by rfl) (hs:starEach (e::es) X.env=(false,eval e X.env)::starEach es X.env:=by rfl) (hplain:(backTo cpos (starEach es X.env)).any (·.1)=false:=by rfl):
  QE X E (.Call (.Attribute o name apos) (e::es) [] cpos) (Jq f to t):=(ZEp PySem.F.plainAttrs_list slot hty hm ho ha hbase hfew hline hs hplain).mono λσ H Q h=>by
 obtain ⟨a,S,G,hk,rfl,s,r,h⟩:=h;refine ⟨a,S,G,hk,rfl,s,r,(Ec h).imp ?_⟩;rintro v _ ⟨b,d,G1,rfl,x,s1,q,-,h1⟩;split at h1
 ·rename_i hl;have ty:=ZFV s1 q hl;rw [x.k,hk] at ty;refine ⟨ty,b,S,G1,x.k.trans hk,rfl,s1,r.mono x,(Ka h1).imp ?_⟩;rintro vs _ ⟨c,ds,G2,rfl,y,s2,q2,-,h2⟩;exact ⟨c,G2,d,ds,y.k.trans (x.k.trans hk),rfl,s2,q.mono y,q2,h2⟩
 ·exact h1.elim
end
inductive Ty where | non | bl | int | str | tup | lst
noncomputable def tyD (G:DH):D->Option Ty
 | .non=>some .non
 | .bl _=>some .bl
 | .int _=>some .int
 | .str _=>some .str
 | .tup _=>some .tup
 | .fl _=>some .lst
 | .ref i=>match G[i]? with
  | some (.lst _)=>some .lst
  | _=>none
 | .ty _=>none
noncomputable def Ty.sub (t:Ty):String->Option Bool
 | "int"=>some (match t with | .int=>true | .bl=>true | _=>false)
 | "bool"=>some (match t with | .bl=>true | _=>false)
 | "str"=>some (match t with | .str=>true | _=>false)
 | "tuple"=>some (match t with | .tup=>true | _=>false)
 | "list"=>some (match t with | .lst=>true | _=>false)
 | _=>none
noncomputable def Et (ds:List D) (G:DH):R D:=match ds with
 | [d,.ty T]=>match tyD G d with
  | some t=>match t.sub T with
   | some k=>.ok (.bl k) G
   | none=>.bad
  | none=>.bad
 | _=>.bad
section
variable {prog:Program} {w:World} {A:Around} {E:Value->Shared->Prop} {s:Shared}
theorem Kl {x:Value} {Tx T:String} {Q:Value->Shared->Prop} (hx:s.TypeIs x Tx) (hty:typeOf (.type T)=pure (.type "type")) (hsub:isSubtype (.type Tx) (.type T)=pure true) (h:Q (.bool true) s):
  wpAny (model prog w) A (call (.builtin "isinstance") [x,.type T]) Q E s:=call_isinstance (isinstance_true hty hsub) ⟨hx,h⟩
end
theorem ty_int:typeOf (.type "int")=pure (.type "type"):=by with_unfolding_all rfl
theorem ty_bool:typeOf (.type "bool")=pure (.type "type"):=by with_unfolding_all rfl
theorem ty_str:typeOf (.type "str")=pure (.type "type"):=by with_unfolding_all rfl
theorem ty_tuple:typeOf (.type "tuple")=pure (.type "type"):=by with_unfolding_all rfl
theorem ty_list:typeOf (.type "list")=pure (.type "type"):=by with_unfolding_all rfl
theorem ZJF:isSubtype (.type "NoneType") (.type "int")=pure false:=by with_unfolding_all rfl
theorem ZHq:isSubtype (.type "NoneType") (.type "bool")=pure false:=by with_unfolding_all rfl
theorem ZG3:isSubtype (.type "NoneType") (.type "str")=pure false:=by with_unfolding_all rfl
theorem ZG4:isSubtype (.type "NoneType") (.type "tuple")=pure false:=by with_unfolding_all rfl
theorem ZGp:isSubtype (.type "NoneType") (.type "list")=pure false:=by with_unfolding_all rfl
theorem ZIi:isSubtype (.type "bool") (.type "int")=pure true:=by with_unfolding_all rfl
theorem ZJK:isSubtype (.type "bool") (.type "bool")=pure true:=by with_unfolding_all rfl
theorem ZFq:isSubtype (.type "bool") (.type "str")=pure false:=by with_unfolding_all rfl
theorem ZF5:isSubtype (.type "bool") (.type "tuple")=pure false:=by with_unfolding_all rfl
theorem ZI6:isSubtype (.type "bool") (.type "list")=pure false:=by with_unfolding_all rfl
theorem ZGl:isSubtype (.type "int") (.type "int")=pure true:=by with_unfolding_all rfl
theorem ZH7:isSubtype (.type "int") (.type "bool")=pure false:=by with_unfolding_all rfl
theorem ZJc:isSubtype (.type "int") (.type "str")=pure false:=by with_unfolding_all rfl
theorem ZI9:isSubtype (.type "int") (.type "tuple")=pure false:=by with_unfolding_all rfl
theorem ZKf:isSubtype (.type "int") (.type "list")=pure false:=by with_unfolding_all rfl
theorem ZHv:isSubtype (.type "str") (.type "int")=pure false:=by with_unfolding_all rfl
theorem ZEk:isSubtype (.type "str") (.type "bool")=pure false:=by with_unfolding_all rfl
theorem ZIw:isSubtype (.type "str") (.type "str")=pure true:=by with_unfolding_all rfl
theorem ZJM:isSubtype (.type "str") (.type "tuple")=pure false:=by with_unfolding_all rfl
theorem ZHd:isSubtype (.type "str") (.type "list")=pure false:=by with_unfolding_all rfl
theorem ZKe:isSubtype (.type "tuple") (.type "int")=pure false:=by with_unfolding_all rfl
theorem ZGX:isSubtype (.type "tuple") (.type "bool")=pure false:=by with_unfolding_all rfl
theorem ZK3:isSubtype (.type "tuple") (.type "str")=pure false:=by with_unfolding_all rfl
theorem ZKz:isSubtype (.type "tuple") (.type "tuple")=pure true:=by with_unfolding_all rfl
theorem ZEe:isSubtype (.type "tuple") (.type "list")=pure false:=by with_unfolding_all rfl
theorem ZAj:isSubtype (.type "list") (.type "int")=pure false:=by with_unfolding_all rfl
theorem ZBe:isSubtype (.type "list") (.type "bool")=pure false:=by with_unfolding_all rfl
theorem ZDM:isSubtype (.type "list") (.type "str")=pure false:=by with_unfolding_all rfl
theorem ZCQ:isSubtype (.type "list") (.type "tuple")=pure false:=by with_unfolding_all rfl
theorem ZB1:isSubtype (.type "list") (.type "list")=pure true:=by with_unfolding_all rfl
section
variable {X:Cx} {E:XK}
theorem Pq:CallR X (.builtin "isinstance") (lRn X.K E Et):=by
 intro pins s σ H vs us Q I rs h;obtain ⟨a,G,ds,hk,rfl,sm,r,q⟩:=h;unfold Et at q;split at q
 ·rename_i d T;obtain ⟨v,v',rfl,h1,h2⟩:=reps2 r
  cases (show v'=V.ty T from h2)
  obtain ⟨u,u',rfl,ru,ru'⟩:∃u u',us= [u,u']/\RelV v u/\RelV (.ty T) u':=by
   cases rs with
   | cons p q=>cases q with
    | cons p' q'=>cases q';exact ⟨_,_,rfl,p,p'⟩
  cases (show u'=Value.type T from ru')
  split at q
  ·rename_i t ht;split at q
   ·rename_i k hk';have fin:∀{n:Nat},EP X pins σ Q (.bool k) {s with toks:=n}:=λ{n}=>⟨.bl k,a.H,I.tok _,rfl,q a _ (Ext.refl a) sm rfl⟩
    have fin0:EP X pins σ Q (.bool k) s:=⟨.bl k,a.H,I,rfl,q a _ (Ext.refl a) sm rfl⟩;unfold Ty.sub at hk';split at hk'
    ·cases d with
     | non=>
      cases ht;cases hk'
      cases (show v=_ from h1)
      cases ru;exact call_isinstance (isinstance_false_none (by decide) ty_int ZJF) fin
     | bl b=>
      cases ht;cases hk'
      cases (show v=_ from h1)
      cases ru;exact Kl (Tx:="bool") rfl ty_int ZIi fin0
     | int b=>
      cases ht;cases hk'
      cases (show v=_ from h1)
      obtain ⟨tk,rfl⟩:=ru;exact Kl (Tx:="int") (typeIs_int s _ _) ty_int ZGl fin0
     | str b=>
      cases ht;cases hk'
      cases (show v=_ from h1)
      obtain ⟨tk,rfl⟩:=ru;exact call_isinstance (isinstance_false_str (by decide) ty_int ZHv) fin
     | tup b=>
      cases ht;cases hk';obtain ⟨p,ws,rfl,hq,_⟩:=h1;cases ru;rw [hk] at hq;obtain ⟨its,_,pl,_⟩:=I.tuple hq;exact call_isinstance (isinstance_false_tuple (by decide) ty_int ZKe) ⟨(let ⟨o,e,c,_⟩:=pl;⟨o,e,c⟩),fin⟩
     | fl b=>
      cases ht;cases hk';obtain ⟨p,ws,rfl,hq,_⟩:=h1;cases ru;have hq:=hq.sq;rw [hk] at hq;obtain ⟨its,_,pl,_⟩:=I.list hq;exact call_isinstance (isinstance_false_list (by decide) ty_int ZAj) ⟨(let ⟨o,e,c,_⟩:=pl.isList;⟨o,e,c⟩),fin⟩
     | ref b=>
      unfold tyD at ht;dsimp only at ht;split at ht
      ·rename_i xs hx;cases ht;cases hk';obtain ⟨ws,e1,_⟩:=sm.lst hx;cases h1.2;cases ru;obtain ⟨its,_,pl,_⟩:=I.list (.of e1);exact call_isinstance (isinstance_false_list (by decide) ty_int ZAj) ⟨(let ⟨o,e,c,_⟩:=pl.isList;⟨o,e,c⟩),fin⟩
      ·cases ht
     | ty n=>cases ht
    ·cases d with
     | non=>
      cases ht;cases hk'
      cases (show v=_ from h1)
      cases ru;exact call_isinstance (isinstance_false_none (by decide) ty_bool ZHq) fin
     | bl b=>
      cases ht;cases hk'
      cases (show v=_ from h1)
      cases ru;exact Kl (Tx:="bool") rfl ty_bool ZJK fin0
     | int b=>
      cases ht;cases hk'
      cases (show v=_ from h1)
      obtain ⟨tk,rfl⟩:=ru;exact call_isinstance (isinstance_false_int (by decide) ty_bool ZH7) fin
     | str b=>
      cases ht;cases hk'
      cases (show v=_ from h1)
      obtain ⟨tk,rfl⟩:=ru;exact call_isinstance (isinstance_false_str (by decide) ty_bool ZEk) fin
     | tup b=>
      cases ht;cases hk';obtain ⟨p,ws,rfl,hq,_⟩:=h1;cases ru;rw [hk] at hq;obtain ⟨its,_,pl,_⟩:=I.tuple hq;exact call_isinstance (isinstance_false_tuple (by decide) ty_bool ZGX) ⟨(let ⟨o,e,c,_⟩:=pl;⟨o,e,c⟩),fin⟩
     | fl b=>
      cases ht;cases hk';obtain ⟨p,ws,rfl,hq,_⟩:=h1;cases ru;have hq:=hq.sq;rw [hk] at hq;obtain ⟨its,_,pl,_⟩:=I.list hq;exact call_isinstance (isinstance_false_list (by decide) ty_bool ZBe) ⟨(let ⟨o,e,c,_⟩:=pl.isList;⟨o,e,c⟩),fin⟩
     | ref b=>
      unfold tyD at ht;dsimp only at ht;split at ht
      ·rename_i xs hx;cases ht;cases hk';obtain ⟨ws,e1,_⟩:=sm.lst hx;cases h1.2;cases ru;obtain ⟨its,_,pl,_⟩:=I.list (.of e1);exact call_isinstance (isinstance_false_list (by decide) ty_bool ZBe) ⟨(let ⟨o,e,c,_⟩:=pl.isList;⟨o,e,c⟩),fin⟩
      ·cases ht
     | ty n=>cases ht
    ·cases d with
     | non=>
      cases ht;cases hk'
      cases (show v=_ from h1)
      cases ru;exact call_isinstance (isinstance_false_none (by decide) ty_str ZG3) fin
     | bl b=>
      cases ht;cases hk'
      cases (show v=_ from h1)
      cases ru;exact call_isinstance (isinstance_false_bool (by decide) ty_str ZFq) fin
     | int b=>
      cases ht;cases hk'
      cases (show v=_ from h1)
      obtain ⟨tk,rfl⟩:=ru;exact call_isinstance (isinstance_false_int (by decide) ty_str ZJc) fin
     | str b=>
      cases ht;cases hk'
      cases (show v=_ from h1)
      obtain ⟨tk,rfl⟩:=ru;exact Kl (Tx:="str") (typeIs_str s _ _) ty_str ZIw fin0
     | tup b=>
      cases ht;cases hk';obtain ⟨p,ws,rfl,hq,_⟩:=h1;cases ru;rw [hk] at hq;obtain ⟨its,_,pl,_⟩:=I.tuple hq;exact call_isinstance (isinstance_false_tuple (by decide) ty_str ZK3) ⟨(let ⟨o,e,c,_⟩:=pl;⟨o,e,c⟩),fin⟩
     | fl b=>
      cases ht;cases hk';obtain ⟨p,ws,rfl,hq,_⟩:=h1;cases ru;have hq:=hq.sq;rw [hk] at hq;obtain ⟨its,_,pl,_⟩:=I.list hq;exact call_isinstance (isinstance_false_list (by decide) ty_str ZDM) ⟨(let ⟨o,e,c,_⟩:=pl.isList;⟨o,e,c⟩),fin⟩
     | ref b=>
      unfold tyD at ht;dsimp only at ht;split at ht
      ·rename_i xs hx;cases ht;cases hk';obtain ⟨ws,e1,_⟩:=sm.lst hx;cases h1.2;cases ru;obtain ⟨its,_,pl,_⟩:=I.list (.of e1);exact call_isinstance (isinstance_false_list (by decide) ty_str ZDM) ⟨(let ⟨o,e,c,_⟩:=pl.isList;⟨o,e,c⟩),fin⟩
      ·cases ht
     | ty n=>cases ht
    ·cases d with
     | non=>
      cases ht;cases hk'
      cases (show v=_ from h1)
      cases ru;exact call_isinstance (isinstance_false_none (by decide) ty_tuple ZG4) fin
     | bl b=>
      cases ht;cases hk'
      cases (show v=_ from h1)
      cases ru;exact call_isinstance (isinstance_false_bool (by decide) ty_tuple ZF5) fin
     | int b=>
      cases ht;cases hk'
      cases (show v=_ from h1)
      obtain ⟨tk,rfl⟩:=ru;exact call_isinstance (isinstance_false_int (by decide) ty_tuple ZI9) fin
     | str b=>
      cases ht;cases hk'
      cases (show v=_ from h1)
      obtain ⟨tk,rfl⟩:=ru;exact call_isinstance (isinstance_false_str (by decide) ty_tuple ZJM) fin
     | tup b=>
      cases ht;cases hk';obtain ⟨p,ws,rfl,hq,_⟩:=h1;cases ru;rw [hk] at hq;obtain ⟨its,_,pl,_⟩:=I.tuple hq;exact Kl (Tx:="tuple") pl.typeIs ty_tuple ZKz fin0
     | fl b=>
      cases ht;cases hk';obtain ⟨p,ws,rfl,hq,_⟩:=h1;cases ru;have hq:=hq.sq;rw [hk] at hq;obtain ⟨its,_,pl,_⟩:=I.list hq;exact call_isinstance (isinstance_false_list (by decide) ty_tuple ZCQ) ⟨(let ⟨o,e,c,_⟩:=pl.isList;⟨o,e,c⟩),fin⟩
     | ref b=>
      unfold tyD at ht;dsimp only at ht;split at ht
      ·rename_i xs hx;cases ht;cases hk';obtain ⟨ws,e1,_⟩:=sm.lst hx;cases h1.2;cases ru;obtain ⟨its,_,pl,_⟩:=I.list (.of e1);exact call_isinstance (isinstance_false_list (by decide) ty_tuple ZCQ) ⟨(let ⟨o,e,c,_⟩:=pl.isList;⟨o,e,c⟩),fin⟩
      ·cases ht
     | ty n=>cases ht
    ·cases d with
     | non=>
      cases ht;cases hk'
      cases (show v=_ from h1)
      cases ru;exact call_isinstance (isinstance_false_none (by decide) ty_list ZGp) fin
     | bl b=>
      cases ht;cases hk'
      cases (show v=_ from h1)
      cases ru;exact call_isinstance (isinstance_false_bool (by decide) ty_list ZI6) fin
     | int b=>
      cases ht;cases hk'
      cases (show v=_ from h1)
      obtain ⟨tk,rfl⟩:=ru;exact call_isinstance (isinstance_false_int (by decide) ty_list ZKf) fin
     | str b=>
      cases ht;cases hk'
      cases (show v=_ from h1)
      obtain ⟨tk,rfl⟩:=ru;exact call_isinstance (isinstance_false_str (by decide) ty_list ZHd) fin
     | tup b=>
      cases ht;cases hk';obtain ⟨p,ws,rfl,hq,_⟩:=h1;cases ru;rw [hk] at hq;obtain ⟨its,_,pl,_⟩:=I.tuple hq;exact call_isinstance (isinstance_false_tuple (by decide) ty_list ZEe) ⟨(let ⟨o,e,c,_⟩:=pl;⟨o,e,c⟩),fin⟩
     | fl b=>
      cases ht;cases hk';obtain ⟨p,ws,rfl,hq,_⟩:=h1;cases ru;have hq:=hq.sq;rw [hk] at hq;obtain ⟨its,_,pl,_⟩:=I.list hq;exact Kl (Tx:="list") pl.isList.typeIs ty_list ZB1 fin0
     | ref b=>
      unfold tyD at ht;dsimp only at ht;split at ht
      ·rename_i xs hx;cases ht;cases hk';obtain ⟨ws,e1,_⟩:=sm.lst hx;cases h1.2;cases ru;obtain ⟨its,_,pl,_⟩:=I.list (.of e1);exact Kl (Tx:="list") pl.isList.typeIs ty_list ZB1 fin0
      ·cases ht
     | ty n=>cases ht
    ·cases hk'
   ·exact q.elim
  ·exact q.elim
 ·exact q.elim
end
noncomputable def Fo:List D->Option (List Int)
 | []=>some []
 | .int i::r=>(Fo r).map (i::·)
 | _=>none
noncomputable def G7:List D->Option (List Bool)
 | []=>some []
 | .bl i::r=>(G7 r).map (i::·)
 | _=>none
@[simp] theorem ZNI (ns:List Int):Fo (ns.map D.int)=some ns:=by
 induction ns with
 | nil=>rfl
 | cons n ns ih=>simp [Fo,ih]
@[simp] theorem ZMk (ns:List Bool):G7 (ns.map D.bl)=some ns:=by
 induction ns with
 | nil=>rfl
 | cons n ns ih=>simp [G7,ih]
theorem ZBk:∀{xs:List D} {ns:List Int},Fo xs=some ns->xs=ns.map D.int
 | [],ns,h=>by cases h;rfl
 | .int i::r,ns,h=>by simp only [Fo,Option.map_eq_some_iff] at h;obtain ⟨ms,h1,rfl⟩:=h;rw [List.map_cons,ZBk h1]
 | .non::r,ns,h=>by simp [Fo] at h
 | .bl _::r,ns,h=>by simp [Fo] at h
 | .str _::r,ns,h=>by simp [Fo] at h
 | .ty _::r,ns,h=>by simp [Fo] at h
 | .tup _::r,ns,h=>by simp [Fo] at h
 | .fl _::r,ns,h=>by simp [Fo] at h
 | .ref _::r,ns,h=>by simp [Fo] at h
theorem ZC3:∀{xs:List D} {ns:List Bool},G7 xs=some ns->xs=ns.map D.bl
 | [],ns,h=>by cases h;rfl
 | .bl i::r,ns,h=>by simp only [G7,Option.map_eq_some_iff] at h;obtain ⟨ms,h1,rfl⟩:=h;rw [List.map_cons,ZC3 h1]
 | .non::r,ns,h=>by simp [G7] at h
 | .int _::r,ns,h=>by simp [G7] at h
 | .str _::r,ns,h=>by simp [G7] at h
 | .ty _::r,ns,h=>by simp [G7] at h
 | .tup _::r,ns,h=>by simp [G7] at h
 | .fl _::r,ns,h=>by simp [G7] at h
 | .ref _::r,ns,h=>by simp [G7] at h
noncomputable def Gw (ds:List D) (G:DH):R D:=match ds with
 | [d]=>match Br d G with
  | some xs=>match Fo xs with
   | some ns=>.ok (.int ns.sum) G
   | none=>.bad
  | none=>.bad
 | _=>.bad
noncomputable def Mv (ds:List D) (G:DH):R D:=match ds with
 | [d]=>match Br d G with
  | some xs=>match G7 xs with
   | some ns=>.ok (.bl (ns.all id)) G
   | none=>.bad
  | none=>.bad
 | _=>.bad
section
variable {X:Cx} {E:XK} {pins:List (Addr×Obj)} {σ:St} {s:Shared} {H:Hp}
theorem ZCi (I:Inv X pins σ H s) (hc:X.calm=true) (h:SqL X.K H p vs∨SqT X.K H p vs) {E':Value->Shared->Prop} {Q:Value->Shared->Prop}
  (hQ:∀(it:Addr) (fp wr:List Addr) (its:List Value) (St:Nat->Heap->Prop) (s₂:Shared),Vals vs its->Walks X.prog X.w X.A.in1 it fp wr its.toArray.size (λi v=>its.toArray[i]? =some v) St->St 0 s₂.heap->(∀b∈fp,b < s₂.heap.objs.size)->
   (∀h' tk,(∀b o,b ∉ wr->s₂.heap.get? b=some o->h'.get? b=some o)->Inv X pins σ H {s₂ with heap:=h',toks:=tk})->Q (.ref it) s₂):
  wpAny (model X.prog X.w) X.A.in1 (pyIter (.ref p)) Q E' s:=by
 have hh:X.A.in1.handled=none:=I.ok.hd hc;rcases h with h | h
 ·obtain ⟨its,r,pl,hz⟩:=I.list h;refine wpAny_pyIter_list pl.isList ?_;have hp:p < s.heap.objs.size:=by obtain ⟨o,e,_⟩:=pl.isList;exact Heap.lt_size e
  refine hQ _ _ _ its _ _ r (Walks.list hh _ p (Nat.ne_of_lt hp) its.toArray) ⟨⟨_,Heap.get?_push_size _ rfl,rfl,rfl⟩,?_⟩ (λb hb=> ?_) λh' tk kk=> ?_
  ·obtain ⟨o,e,c⟩:=pl.isList;exact ⟨o,Heap.get?_push_of_some _ e,c⟩
  ·show b < (s.heap.push _).objs.size;rw [Heap.size_push];rcases List.mem_cons.mp hb with rfl | hb
   ·exact Nat.lt_succ_self _
   ·have e:b=p:=by simpa using hb
    subst e;exact Nat.lt_succ_of_lt hp
  ·refine I.kept λb o e=>kk b o (λhb=> ?_) (Heap.get?_push_of_some _ e)
   have e2:b=s.heap.objs.size:=by simpa using hb
   subst e2;exact absurd (Heap.lt_size e) (Nat.lt_irrefl _)
 ·obtain ⟨its,r,pl,hz⟩:=I.tuple h
  refine wpAny_pyIter_tuple (show s.heap.IsTuple p its.toArray from pl) ?_
  have hp:p < s.heap.objs.size:=by obtain ⟨o,e,_⟩:=pl;exact Heap.lt_size e
  refine hQ _ _ _ its _ _ r (Walks.tuple hh _ p (Nat.ne_of_lt hp) its.toArray) ⟨⟨_,Heap.get?_push_size _ rfl,rfl,rfl⟩,?_⟩ (λb hb=> ?_) λh' tk kk=> ?_
  ·obtain ⟨o,e,c⟩:=pl;exact ⟨o,Heap.get?_push_of_some _ e,c⟩
  ·show b < (s.heap.push _).objs.size;rw [Heap.size_push];rcases List.mem_cons.mp hb with rfl | hb
   ·exact Nat.lt_succ_self _
   ·have e:b=p:=by simpa using hb
    subst e;exact Nat.lt_succ_of_lt hp
  ·refine I.kept λb o e=>kk b o (λhb=> ?_) (Heap.get?_push_of_some _ e)
   have e2:b=s.heap.objs.size:=by simpa using hb
   subst e2;exact absurd (Heap.lt_size e) (Nat.lt_irrefl _)
theorem ZAk (ns:List Int):∀n,n<=ns.length->preSum (λi=>ns.getD i 0) n=(ns.take n).sum
 | 0,_=>by simp [preSum]
 | n + 1,h=>by have hn:n < ns.length:=h;rw [preSum,ZAk ns n (by lia),List.take_succ_eq_append_getElem hn,List.sum_append];simp [hn]
theorem ZDg:∀{ns:List Int} {vs:List V},Reps a (ns.map D.int) vs->vs=ns.map V.int
 | [],vs,h=>h
 | n::ns,vs,h=>by
  obtain ⟨v,r,e,h1,h2⟩:=h
  cases (show v=V.int n from h1)
  rw [e,ZDg h2]
  rfl
theorem ZBq:∀{ns:List Bool} {vs:List V},Reps a (ns.map D.bl) vs->vs=ns.map V.bl
 | [],vs,h=>h
 | n::ns,vs,h=>by
  obtain ⟨v,r,e,h1,h2⟩:=h
  cases (show v=V.bl n from h1)
  rw [e,ZBq h2]
  rfl
theorem V8 (hc:X.calm=true):CallR X (.builtin "sum") (lRn X.K E Gw):=by
 intro pins s σ H vs us Q I rs h;obtain ⟨a,G,ds,hk,rfl,sm,r,q⟩:=h;unfold Gw at q;split at q
 ·rename_i d;obtain ⟨v,rfl,rv⟩:=reps1 r;split at q
  ·rename_i xs hs;split at q
   ·rename_i ns hn;cases ZBk hn;obtain ⟨p,ws,rfl,h1,r1⟩:=Ms sm rv hs;cases ZDg r1;rw [hk] at h1;obtain ⟨u,rfl,ru⟩:=vals1 rs;cases ru;refine call_sum_walkG (ZCi I hc h1 λit fp wr its St s₂ hv W st hfp fin=>⟨it,fp,wr,its.toArray.size,_,St,λi=>ns.getD i 0,rfl,W,st,hfp,λi w hw=> ?_,λh' tk t' kk=> ?_⟩)
    ·have hw':its[i]? =some w:=by simpa using hw
     have hl:i < (ns.map V.int).length:=by rw [hv.length];exact (List.getElem?_eq_some_iff.mp hw').1
     have hl':i < ns.length:=by simpa using hl
     obtain ⟨u,hu,ru⟩:=hv.get (i:=i) (x:=V.int ns[i]) (by simp [hl']);rw [hw'] at hu;cases hu;obtain ⟨t,rfl⟩:=ru;exact ⟨t,by simp [hl']⟩
    ·refine ⟨.int ns.sum,a.H,fin h' tk kk,⟨t',?_⟩,q a _ (Ext.refl a) sm rfl⟩;have hl:its.toArray.size=ns.length:=by rw [List.size_toArray,<-hv.length];simp
     rw [hl,ZAk ns ns.length (Nat.le_refl _),List.take_length]
   ·exact q.elim
  ·exact q.elim
 ·exact q.elim
theorem all_range (ns:List Bool):(List.range ns.length).all (λi=>ns.getD i true)=ns.all id:=by
 rw [Bool.eq_iff_iff,List.all_eq_true,List.all_eq_true];constructor
 ·intro h b hb;obtain ⟨i,hi,rfl⟩:=List.getElem_of_mem hb;simpa [hi] using h i (List.mem_range.mpr hi)
 ·intro h i hi;have hi':i < ns.length:=List.mem_range.mp hi;simpa [hi'] using h ns[i] (List.getElem_mem hi')
theorem ZIU (hc:X.calm=true):CallR X (.builtin "all") (lRn X.K E Mv):=by
 intro pins s σ H vs us Q I rs h;obtain ⟨a,G,ds,hk,rfl,sm,r,q⟩:=h;unfold Mv at q;split at q
 ·rename_i d;obtain ⟨v,rfl,rv⟩:=reps1 r;split at q
  ·rename_i xs hs;split at q
   ·rename_i ns hn;cases ZC3 hn;obtain ⟨p,ws,rfl,h1,r1⟩:=Ms sm rv hs;cases ZBq r1;rw [hk] at h1;obtain ⟨u,rfl,ru⟩:=vals1 rs;cases ru;refine call_all_walk (ZCi I hc h1 λit fp wr its St s₂ hv W st hfp fin=>⟨it,fp,wr,its.toArray.size,_,St,λi=>ns.getD i true,rfl,W,st,λi w s' Q' E' hw hQ'=> ?_,λh' tk kk=> ?_⟩)
    ·have hw':its[i]? =some w:=by simpa using hw
     have hl:i < (ns.map V.bl).length:=by rw [hv.length];exact (List.getElem?_eq_some_iff.mp hw').1
     have hl':i < ns.length:=by simpa using hl
     obtain ⟨u,hu,ru⟩:=hv.get (i:=i) (x:=V.bl ns[i]) (by simp [hl']);rw [hw'] at hu;cases hu;cases ru;refine wpAny_truthy_bool ?_;simpa [hl'] using hQ'
    ·refine ⟨.bl (ns.all id),a.H,fin h' tk kk,?_,q a _ (Ext.refl a) sm rfl⟩;have hl:its.toArray.size=ns.length:=by rw [List.size_toArray,<-hv.length];simp
     rw [hl,all_range]
     rfl
   ·exact q.elim
  ·exact q.elim
 ·exact q.elim
end
section
variable {X:Cx} {pins:List (Addr×Obj)} {σ:St} {H:Hp} {s:Shared}
theorem Zx {a:Addr} {o:HO} (I:Inv X pins σ H s) (hn:H a=none) (hy:X.s₀.heap.objs.size<=a) (hL:a≠X.env.locals) (hc:∀x c,X.env.cells.lookup x=some c->c≠a) (hp:∀p∈X.pn++pins,p.1≠a)
  (new:ObjOk X.prog X.w (upd H a o) s.heap a o):Inv X pins σ (upd H a o) s:=by
 have ne:∀b u,H b=some u->b≠a:=λb u e z=>by rw [z,hn] at e;cases e
 refine ⟨I.ok,I.os,I.bare,⟨I.base.keep,I.base.slot,λb ob q n hx=> ?_,I.base.there,λb xs q=> ?_,λb ob u q=> ?_,λb ps q=> ?_⟩,I.loc,I.cell,?_,λx c e=> ?_,λp hp'=> ?_,λb u e=> ?_,I.len⟩
 ·rw [Ao (Nat.ne_of_lt (Nat.lt_of_lt_of_le (Heap.lt_size q) hy))];exact I.base.free b ob q n hx
 ·have:=I.base.tups b xs q;rw [Ao (ne _ _ this)];exact this
 ·have:=I.base.frzs b ob u q;rw [Ao (ne _ _ this)];exact this
 ·obtain ⟨more,this⟩:=I.base.tbls b ps q;exact ⟨more,by rw [Ao (ne _ _ this)];exact this⟩
 ·rw [Ao (Ne.symm hL)];exact I.free
 ·rw [Ao (hc x c e)];exact I.Gy x c e
 ·obtain ⟨e1,e2,e3⟩:=I.pin p hp';exact ⟨e1,by rw [Ao (hp p hp')];exact e2,e3⟩
 ·by_cases hb:b=a
  ·subst hb;rw [Dt] at e;cases e;exact new
  ·rw [Ao hb] at e;exact (I.hok b u e).stay (λ_ _ _ q=>q) (λc q=>by rw [Ao (ne _ _ q)];exact q) λc xs q=>by rw [Ao (ne _ _ q)];exact q
end
noncomputable def Cq (env:Env):List (Str×NameKind)->List (Str×Addr)->List (Str×Addr)
 | [],cs=>cs
 | (n,k)::r,cs=>if (k == NameKind.free)=true then Cq env r ((n,(env.cells.lookup n).getD 0)::cs) else Cq env r cs
theorem ZAW (h:∀y∈scope.names,y.2=.free->∃c,env.cells.lookup y.1=some c):closureFor scope env=pure (Cq env scope.names []):=by
 unfold closureFor;obtain ⟨kind,names,g1,g2⟩:=scope;have key:∀(names:List (Str×NameKind)) (cs:List (Str×Addr)),(∀y∈names,y.2=.free->∃c,env.cells.lookup y.1=some c)->
   (forIn names cs (λx r=>match x with
    | (name,kind)=>if (kind == NameKind.free)=true then (do let c<-cellOf env name;pure (ForInStep.yield ((name,c)::r))) else pure (ForInStep.yield r)):Sem (List (Str×Addr)))=pure (Cq env names cs):=by
  intro names
  induction names with
  | nil=>intro cs _;rfl
  | cons y r ih=>
   intro cs hy;obtain ⟨n,k⟩:=y;rw [List.forIn_cons];by_cases hk:(k == NameKind.free)=true
   ·obtain ⟨c,hc⟩:=hy (n,k) List.mem_cons_self (by simpa using hk)
    have e1:cellOf env n=pure c:=by unfold cellOf;rw [show env.cells.lookup n=some c from hc]
    have e2:Cq env ((n,k)::r) cs=Cq env r ((n,c)::cs):=by rw [Cq,if_pos hk,show env.cells.lookup n=some c from hc];rfl
    rw [e2,<-ih ((n,c)::cs) λy' hy'=>hy y' (List.mem_cons_of_mem _ hy')];simp only [hk,if_true,e1]
    rfl
   ·have e2:Cq env ((n,k)::r) cs=Cq env r cs:=by rw [Cq,if_neg hk]
    rw [e2,<-ih cs λy' hy'=>hy y' (List.mem_cons_of_mem _ hy')];simp only [hk]
    rfl
 have:=key names [] h;exact congrArg (λm:Sem (List (Str×Addr))=>m >>=λr=>pure r) this
theorem Yb:∀{names:List (Str×NameKind)} {cs:List (Str×Addr)},(∀y∈names,y.2=.free->∃c,env.cells.lookup y.1=some c)->(∀p∈cs,env.cells.lookup p.1=some p.2)->∀p∈Cq env names cs,env.cells.lookup p.1=some p.2
 | [],cs,_,hc,p,hp=>hc p hp
 | (n,k)::r,cs,hn,hc,p,hp=>by
  rw [Cq] at hp;split at hp
  ·rename_i hk;obtain ⟨c,e⟩:=hn (n,k) List.mem_cons_self (by simpa using hk);refine Yb (λy hy=>hn y (List.mem_cons_of_mem _ hy)) (λq hq=> ?_) p hp;rcases List.mem_cons.mp hq with rfl | hq
   ·rw [show env.cells.lookup n=some c from e];rfl
   ·exact hc q hq
  ·exact Yb (λy hy=>hn y (List.mem_cons_of_mem _ hy)) hc p hp
theorem My:∀{names:List (Str×NameKind)} {cs:List (Str×Addr)},((x,.free)∈names∨∃c,(x,c)∈cs)->∃c,(x,c)∈Cq env names cs
 | [],cs,h=>by
  rcases h with h | h
  ·cases h
  ·exact h
 | (n,k)::r,cs,h=>by
  rw [Cq];split
  ·refine My ?_;rcases h with h | ⟨c,h⟩
   ·rcases List.mem_cons.mp h with e | h
    ·cases e;exact .inr ⟨_,List.mem_cons_self⟩
    ·exact .inl h
   ·exact .inr ⟨c,List.mem_cons_of_mem _ h⟩
  ·rename_i hk;refine My ?_;rcases h with h | h
   ·rcases List.mem_cons.mp h with e | h
    ·cases e;exact absurd rfl hk
    ·exact .inl h
   ·exact .inr h
theorem Ox {c:Addr}:∀{l:List (Str×Addr)},(x,c)∈l->∃d,l.lookup x=some d
 | [],h=>by cases h
 | (y,d)::l,h=>by
  by_cases e:x=y
  ·subst e;exact ⟨d,by simp⟩
  ·rcases List.mem_cons.mp h with z | h
   ·cases z;exact absurd rfl e
   ·obtain ⟨d',q⟩:=Ox h;exact ⟨d',by rw [List.lookup_cons,beq_eq_false_iff_ne.mpr e];exact q⟩
theorem ZDL (x:Str):(relabel scope env).names.lookup x=(scope.names.lookup x).map λk=>if (k == NameKind.free && env.scope.kind == .function && env.kindOf x == some .cell)=true then .cell else k:=by
 unfold relabel;generalize scope.names=l
 induction l with
 | nil=>rfl
 | cons y r ih=>
  obtain ⟨n,k⟩:=y;by_cases e:x=n
  ·subst e;simp only [List.map_cons]
   cases hc:(k == NameKind.free && env.scope.kind == ScopeKind.function && env.kindOf x == some NameKind.cell) <;>
    simp only [hc,if_true,List.lookup_cons,beq_self_eq_true,Option.map_some,Bool.false_eq_true,if_false]
  ·have hb:(x == n)=false:=beq_eq_false_iff_ne.mpr e;simp only [List.map_cons];split
   ·rw [List.lookup_cons,List.lookup_cons,hb];exact ih
   ·rw [List.lookup_cons,List.lookup_cons,hb];exact ih
noncomputable def blk (X:Cx) (N:List Str) (scope:Scope) (C:Addr) (s₀:Shared) (H₀:Hp) (ex:List Addr):Cx where
 prog:=X.prog
 w:=X.w
 K:=X.K
 mg:=X.mg
 base:=X.base
 A:=X.A
 N:=N
 s₀:=s₀
 H₀:=H₀
 env:=compEnvC scope (Cq X.env scope.names []) C X.env
 outer:=X.stack
 stack:=X.stack
 ex:=ex
 fn:=λ_=>false
 calm:=X.calm
 pn:= []
 xe:=λ_ _=>False
structure CompSc (X:Cx) (N:List Str) (scope:Scope) (nt:Nat) (caps:List Nat):Prop where
 kind:scope.kind=.function
 names:∀y∈scope.names,y.2=.local->scope.names.lookup y.1=some .local
 nocell:∀y∈scope.names,y.2≠ .cell
 free:∀y∈scope.names,y.2=.free->X.env.kindOf y.1=some .cell∨X.env.kindOf y.1=some .free
 nd:N.Nodup
 len:N.length=nt + caps.length
 cap:∀(k j:Nat),caps[k]? =some j->∃x,X.N[j]? =some x/\N[nt + k]? =some x/\scope.names.lookup x=some .free
section
variable {X:Cx} {pins:List (Addr×Obj)} {σ:St} {H:Hp} {s:Shared} {N:List Str} {scope:Scope} {nt:Nat} {caps:List Nat}
theorem CompSc.cells (c:CompSc X N scope nt caps) (ok:X.Ok):∀y∈scope.names,y.2=.free->∃c,X.env.cells.lookup y.1=some c:=λy hy hk=>ok.has y.1 (c.free y hy hk)
theorem CompSc.cl (c:CompSc X N scope nt caps) (ok:X.Ok) {d:Addr} (h:(Cq X.env scope.names []).lookup x=some d):X.env.cells.lookup x=some d:=
 Yb (c.cells ok) (λp hp=>by cases hp) (x,d) (PySem.mem_of_lookup h)
theorem ZIL (c:CompSc X N scope nt caps) (I:Inv X pins σ H s) {fp:List Addr} (hf:∀b∈fp,FpOk X pins H b) {C:Addr} (hC:s.heap.objs.size<=C) (hCf:C ∉ fp):(blk X N scope C s H fp).Ok where
 mod:=I.ok.mod
 kind:=c.kind
 glob:=I.ok.glob
 blt:=I.ok.blt
 above:=hC
 inj:=λx y d h1 h2=>I.ok.inj x y d (c.cl I.ok h1) (c.cl I.ok h2)
 has:=λx h=>by
  have h':(relabel scope X.env).names.lookup x=some .cell∨(relabel scope X.env).names.lookup x=some .free:=h;rw [ZDL] at h';have hfree:scope.names.lookup x=some .free:=by
   cases e:scope.names.lookup x with
   | none=>rw [e] at h';rcases h' with h' | h' <;> cases h'
   | some k=>
    rw [e] at h';cases k with
    | free=>rfl
    | cell=>exact absurd rfl (c.nocell _ (PySem.mem_of_lookup e))
    | _=>rcases h' with h' | h' <;> (simp at h')
  obtain ⟨d,hd⟩:=My (env:=X.env) (x:=x) (names:=scope.names) (cs:= []) (.inl (PySem.mem_of_lookup hfree));exact Ox hd
 cab:=λx d h=>by cases h
 hd:=I.ok.hd
 frames:=I.ok.frames
 stk:=.inl rfl
 exf:=λb hb=>⟨λz=>hCf (by rw [<-show b=C from z];exact hb),λx d h=>(hf b hb).2.2.2.2.1 x d (c.cl I.ok h)⟩
 bs:=I.bs
 bsz:=Nat.le_trans I.ok.bsz I.sz
 noex:=λb o e hb=>by
  rcases (hf b hb).2.2.2.1 with h | h
  ·exact I.ok.noex b o e h
  ·exact absurd (Nat.lt_of_lt_of_le (Heap.lt_size (I.ok.bs b o e).1) h) (Nat.lt_irrefl _)
 exfs:=λb hb hz=>by
  rcases List.mem_cons.mp (I.Qq b hz) with z | z
  ·exact (hf b hb).2.1 z
  ·exact (hf b hb).2.2.1 z
 funs:=I.stack
 frf:=I.Wj
end
noncomputable def Df (g:DG) (c:DB) (te:DE) (S:DSt):List D->DH->R (List D)
 | [],G=>.ok [] G
 | x::xs,G=>(g x S G).bind λS1 G1=>(c S1 G1).bind λk G2=>
   if k=true then (te S1 G2).bind λd G3=>(Df g c te S xs G3).bind λds G4=>.ok (d::ds) G4 else Df g c te S xs G2
noncomputable def Dy (i:Nat) (g:DG) (c:DB) (te:DE) (S:DSt):Nat->Nat->DH->R (List D)
 | 0,j,G=>match G[i]? with
  | some (.lst xs)=>if xs.length<=j then .ok [] G else .bad
  | _=>.bad
 | n + 1,j,G=>match G[i]? with
  | some (.lst xs)=>match xs[j]? with
   | some x=>(g x S G).bind λS1 G1=>(c S1 G1).bind λk G2=>
     if k=true then (te S1 G2).bind λd G3=>(Dy i g c te S n (j + 1) G3).bind λds G4=>.ok (d::ds) G4 else Dy i g c te S n (j + 1) G2
   | none=>.ok [] G
  | _=>.bad
noncomputable def De (f:Nat->DH->Option (Option D)) (g:DG) (c:DB) (te:DE) (S:DSt):Nat->Nat->DH->R (List D)
 | 0,j,G=>match f j G with
  | some none=>.ok [] G
  | _=>.bad
 | n + 1,j,G=>match f j G with
  | some (some x)=>(g x S G).bind λS1 G1=>(c S1 G1).bind λk G2=>
     if k=true then (te S1 G2).bind λd G3=>(De f g c te S n (j + 1) G3).bind λds G4=>.ok (d::ds) G4 else De f g c te S n (j + 1) G2
  | some none=>.ok [] G
  | none=>.bad
noncomputable def Bh (nt:Nat) (caps:List Nat) (S:DSt):DSt:=List.replicate nt none++caps.map λj=>(S[j]?).join
noncomputable def Eo (it:DI) (nt:Nat) (caps:List Nat) (g:DG) (c:DB) (te:DE):DE:=λS G=>(it S G).bind λJ G1=>(match J with
 | .pure xs=>Df g c te (Bh nt caps S) xs G1
 | .mt i=>match G1[i]? with
  | some (.lst xs)=>Dy i g c te (Bh nt caps S) xs.length 0 G1
  | _=>.bad
 | .fn n f=>De f g c te (Bh nt caps S) n 0 G1).bind Ar
noncomputable def Cd:DB:=λ_ G=>.ok true G
noncomputable def GK (nt:Nat) (g:DG):Prop:=∀d S G S1 G1,g d S G=.ok S1 G1->∀i e,nt<=i->S[i]? =some (some e)->S1[i]? =some (some e)
noncomputable def GKs (nt:Nat) (g:DGs):Prop:=∀d S G S1 G1,g d S G=.ok S1 G1->∀i e,nt<=i->S[i]? =some (some e)->S1[i]? =some (some e)
theorem Gb (h:i < nt):GK nt (gV i):=λd S G S1 G1 e j x hj hx=>by cases e;rw [List.getElem?_set_ne (by lia)];exact hx
theorem ZDQ:GKs nt Gz:=λd S G S1 G1 e j x hj hx=>by
 cases d with
 | nil=>cases e;exact hx
 | cons _ _=>cases e
theorem Vh {t:DG} {u:DGs} (h1:GK nt t) (h2:GKs nt u):GKs nt (Bx t u):=λd S G S1 G1 e j x hj hx=>by
 cases d with
 | nil=>cases e
 | cons a r=>
  have e':(t a S G).bind (λS1 G1=>u r S1 G1)=.ok S1 G1:=e;cases ht:t a S G with
  | ok S2 G2=>rw [ht] at e';exact h2 _ _ _ _ _ e' j x hj (h1 _ _ _ _ _ ht j x hj hx)
  | err _ _=>rw [ht] at e';cases e'
  | bad=>rw [ht] at e';cases e'
theorem ZDR {t:DGs} (h:GKs nt t):GK nt (Ff n t):=λd S G S1 G1 e j x hj hx=>by
 cases d with
 | tup ds=>
  unfold Ff at e;dsimp only at e;split at e
  ·exact h _ _ _ _ _ e j x hj hx
  ·cases e
 | _=>cases e
theorem ZII {r:R DSt} {f:DSt->DH->R D} (h:out E a (r.bind f) Q):
  Ed E a r (λσ H=>∃(b:Wd) (S:DSt) (G:DH),b.H=H/\Ext a b/\Sim b G/\RepS b S σ/\r=.ok S G/\out E b (f S G) Q):=by
 cases r with
 | ok d G=>exact λb v x s q=>⟨b,d,G,rfl,x,s,q,rfl,out.mono x h⟩
 | err e G=>exact h
 | bad=>exact h
theorem R.bind_assoc {β γ:Type} (r:R α) (f:α->DH->R β) (g:β->DH->R γ):(r.bind f).bind g=r.bind λa G=>(f a G).bind g:=by cases r <;> rfl
theorem ZB7 {r:R ItD} {f:ItD->DH->R D} (h:out E a (r.bind f) Q):
  outI E a r (λJ H=>∃(b:Wd) (d:ItD) (G:DH),b.H=H/\Ext a b/\Sim b G/\RepI b d J/\r=.ok d G/\out E b (f d G) Q):=by
 cases r with
 | ok d G=>exact λb v x s q=>⟨b,d,G,rfl,x,s,q,rfl,out.mono x h⟩
 | err e G=>exact h
 | bad=>exact h
section
variable {prog:Program} {w:World} {A:Around} {R':Result->Shared->Prop} {s:Shared}
theorem ZJq {elt target iter:Expr} {ifs:List Expr} {scope:Scope} {pos:Pos} {it acc:Value} {env:Env} (I:Nat->Shared->Prop)
  (turn:∀n s,I n s->wpAny (model prog w) A (pyNext it) (λr s₁=>match r with
   | none=>R' (.ok .next) s₁
   | some v=>wpAny (model prog w) A (letOwnedTupleGo target it v) (λ_ s₁=>wpAny (model prog w) A (assign target env v) (λ_ s₂=>
     wpAny (model prog w) A (forIn ifs true λc r=>if r=true then do let ok<-isTrue c env (eval c env);pure (ForInStep.yield ok) else pure (ForInStep.yield r)) (λok s₃=>
      if ok=true then wpAny (model prog w) A (eval elt env) (λx s₄=>
       wpAny (model prog w) A (call (.builtin "list.append") [acc,x]) (λ_ s₅=>∃m,m < n/\I m s₅) (λ_ _=>False) s₄) (λ_ _=>False) s₃
      else∃m,m < n/\I m s₃) (λ_ _=>False) s₂) (λ_ _=>False) s₁) (λ_ _=>False) s₁) (λ_ _=>False) s)
  (n:Nat) (h:I n s):
  codeAny (model prog w) A (.compLoop (.ListComp elt [⟨target,iter,ifs,0⟩] scope pos) 0 it acc env) R' s:=by
 refine codeAny_loop rfl I (λn s hI=> ?_) n h
 show wpAny _ A ((compTurn (.ListComp elt [⟨target,iter,ifs,0⟩] scope pos) 0 it acc env).onRaise (λx=>do noteFrame x env;theTreesLotGoes x)) _ _ s
 refine wpAny_noted ?_;rw [compTurn_list];refine wpAny_mono ?_ (λ_ _ q=>q) (λ_ _ (f:False)=>f.elim);refine wpAny_bind (wpAny_standAt (wpAny_bind (wpAny_mono (turn n s hI) (λr s₁ h₁=> ?_) λ_ _ h'=>h')));cases r with
 | none=>exact wpAny_pure h₁
 | some v=>
  refine wpAny_bind (wpAny_mono h₁ (λ_ s₂' h₁=> ?_) λ_ _ h'=>h');refine wpAny_bind (wpAny_mono h₁ (λ_ s₂ h₂=>wpAny_bind (wpAny_mono h₂ (λok s₃ h₃=> ?_) λ_ _ h'=>h')) λ_ _ h'=>h');cases ok with
  | false=>exact wpAny_pure ⟨rfl,h₃⟩
  | true=>
   exact wpAny_bind (wpAny_bind (wpAny_mono h₃ (λx s₄ h₄=>wpAny_bind (wpAny_mono h₄ (λ_ s₅ h₅=>wpAny_pure (wpAny_pure ⟨rfl,h₅⟩)) λ_ _ h'=>h')) λ_ _ h'=>h'))
end
noncomputable def QTs (X:Cx) (E:XK) (ifs:List Expr) (t:DB):Prop:=
 ∀(pins:List (Addr×Obj)) (s:Shared) (σ:St) (H:Hp) (Q:Bool->Hp->Prop),Inv X pins σ H s->lB X.K E t σ H Q->
  wpAny (model X.prog X.w) X.A (forIn ifs true λc r=>if r=true then do let ok<-isTrue c X.env (eval c X.env);pure (ForInStep.yield ok) else pure (ForInStep.yield r)) (TP X pins σ Q) X.xe s
theorem Ir:QTs X E [] Cd:=λpins s σ H Q I h=>by obtain ⟨a,S,G,hk,rfl,sm,r,h⟩:=h;exact wpAny_tests_nil ⟨a.H,I,h a (Ext.refl a) sm⟩
theorem ZBC {c:Expr} {t:DB} (hc:QT X E c t):QTs X E [c] t:=λpins s σ H Q I h=>wpAny_tests_one (hc pins s σ H Q I h)
section
variable {X:Cx} {E:XK} {N:List Str} {scope:Scope} {nt:Nat} {caps:List Nat} {tg elt iter:Expr} {ifs:List Expr} {pos:Pos} {it:DI} {g:DG} {c:DB} {te:DE}
theorem ZI2 (r:RepS a S σ):RepS a (Bh nt caps S) (List.replicate nt none++caps.map λj=>(σ[j]?).join):=by
 refine ⟨by simp [Bh],λi d h=> ?_⟩;unfold Bh at h;by_cases hi:i < nt
 ·rw [List.getElem?_append_left (by simpa using hi),List.getElem?_replicate] at h
  split at h <;> cases h
 ·rw [List.getElem?_append_right (by simpa using hi),List.getElem?_map] at h;rw [List.getElem?_append_right (by simpa using hi),List.getElem?_map];rw [List.length_replicate] at h ⊢;cases e:caps[i - nt]? with
  | none=>rw [e] at h;cases h
  | some j=>
   rw [e] at h;have h1:(S[j]?).join=some d:=by simpa using h
   have h2:S[j]? =some (some d):=by
    cases q:S[j]? with
    | none=>rw [q] at h1;cases h1
    | some o=>
     rw [q] at h1;have h1':o=some d:=h1;rw [h1']
   obtain ⟨v,ev,rv⟩:=r.get j d h2;exact ⟨v,by simp [ev],rv⟩
theorem ZHC (h:(Bh nt caps S)[i]? =some (some d)):nt<=i:=by
 unfold Bh at h;by_cases hi:i < nt
 ·rw [List.getElem?_append_left (by simpa using hi),List.getElem?_replicate] at h
  split at h <;> cases h
 ·lia
theorem Zd (hc:X.calm=true) (cs:CompSc X N scope nt caps)
  (hg:∀C s₀ H₀ ex,QG (blk X N scope C s₀ H₀ ex) E0 tg g) (gk:GK nt g) (hts:∀C s₀ H₀ ex,QTs (blk X N scope C s₀ H₀ ex) E0 ifs c) (he:∀C s₀ H₀ ex,QE (blk X N scope C s₀ H₀ ex) E0 elt te)
  {pins:List (Addr×Obj)} {σ:St} {s:Shared} {a:Wd} {S:DSt} {G:DH} {J:It} {n0:Nat} {f:Nat->DH->Option (Option D)} {i0:Addr} {fp:List Addr} {tn:Nat->Heap->Prop} (I:Inv X pins σ a.H s) (hk:a.K=X.K) (sm:Sim a G) (rS:RepS a S σ)
  (T:Turn X.prog X.w X.K tg J fp i0 tn) (t0:tn 0 s.heap) (hf:∀b∈fp,FpOk X pins a.H b) (rJ:RepI a (.fn n0 f) J) {Q:VK}
  (h:out E0 a ((De f g c te (Bh nt caps S) n0 0 G).bind Ar) Q)
  {RR:Value->Addr->Result->Shared->Prop} {E':Value->Shared->Prop}
  (hRR:∀(D C:Addr) (s':Shared) (b:Wd) (vs:List V),Inv X pins σ (upd b.H D (.lst vs)) s'->b.H D=none->s.heap.objs.size<=C->D≠C->(∃m,s'.heap.Ns C m)->b.H C=none->Q (.ref D) (upd b.H D (.lst vs))->RR (.ref D) C (.ok .next) s'):
  wpAny (model X.prog X.w) X.A (newList []) (λacc s₃=>wpAny (model X.prog X.w) X.A (newFunctionEnv scope X.env.globals (Cq X.env scope.names []) [] X.env.qual none .none (some X.env)) (λcenv s₄=>
   codeAny (model X.prog X.w) X.A (.compStart (.ListComp elt [⟨tg,iter,ifs,0⟩] scope pos) 0 (.ref i0) acc {cenv with scope:=relabel scope X.env}) (RR acc cenv.locals) s₄) E' s₃) E' s:=by
 refine wpAny_newObj_type (wpAny_newFunctionEnv cs.nocell (by intro y hy;simp at hy) (λh₁ hns₁ hsb₁=> ?_) cs.kind);dsimp only at hns₁ hsb₁ ⊢;generalize hH2:s.heap.push {cls:=.type "list",dict:=none,data:=.seq ([]:List Value).toArray}=H2 at hns₁ hsb₁ ⊢;have hC:H2.objs.size=s.heap.objs.size + 1:=by rw [<-hH2,Heap.size_push]
 have hDC:s.heap.objs.size≠H2.objs.size:=by rw [hC];exact Nat.ne_of_lt (Nat.lt_succ_self _)
 have hCle:s.heap.objs.size<=H2.objs.size:=by rw [hC];exact Nat.le_succ _
 have fpOld:∀b∈fp,b < s.heap.objs.size:=λb hb=>by obtain ⟨o,e,_⟩:=T.obj 0 _ t0 b hb;exact Heap.lt_size e
 have hDf:s.heap.objs.size ∉ fp:=λhm=>Nat.lt_irrefl _ (fpOld _ hm)
 have hCf:H2.objs.size ∉ fp:=λhm=>by have:=fpOld _ hm;rw [hC] at this;exact Nat.lt_irrefl _ (Nat.lt_of_succ_lt this)
 have old:∀b o,s.heap.get? b=some o->h₁.get? b=some o:=λb o e=>
  hsb₁.extBut b o (by rw [hC];exact Nat.ne_of_lt (Nat.lt_succ_of_lt (Heap.lt_size e))) (Heap.get?_push_of_some _ (hH2 ▸ Heap.get?_push_of_some _ e))
 have hacc:h₁.PlainList s.heap.objs.size ([]:List Value).toArray:=⟨_,hsb₁.extBut _ _ hDC (Heap.get?_push_of_some _ (hH2 ▸ Heap.get?_push_size _ rfl))⟩;generalize hCe:H2.objs.size=C at *;generalize hDe:s.heap.objs.size=Dd at *;let B:=blk X N scope C s a.H fp;have okB:B.Ok:=ZIL cs I hf (by rw [hDe];exact hCle) hCf;let σ0:St:=List.replicate nt none++caps.map λj=>(σ[j]?).join
 have start:∀tk,Inv B [] σ0 a.H {s with heap:=h₁,toks:=tk}:=λtk=>by
  refine ⟨okB,rfl,I.bare,Un.kept old,⟨_,hns₁,λi x v e1 e2 e3=> ?_⟩,λx d' e=> ?_,I.hok.fresh (by rw [hDe];exact hCle),λx d' e=> ?_,λp hp=> ?_,I.hok.kept old,?_⟩
  ·have hi:nt<=i:=by
    by_cases hi:i < nt
    ·have e2':σ0[i]? =some (some v):=e2;rw [List.getElem?_append_left (by simpa using hi),List.getElem?_replicate] at e2'
     split at e2' <;> cases e2'
    ·lia
   have e2':σ0[i]? =some (some v):=e2;rw [List.getElem?_append_right (by simpa using hi),List.getElem?_map,List.length_replicate] at e2';cases ej:caps[i - nt]? with
   | none=>rw [ej] at e2';cases e2'
   | some j=>
    rw [ej] at e2';have h1:(σ[j]?).join=some v:=by simpa using e2'
    have h2:σ[j]? =some (some v):=by
     cases q:σ[j]? with
     | none=>rw [q] at h1;cases h1
     | some o=>
      rw [q] at h1;have h1':o=some v:=h1;rw [h1']
    obtain ⟨y,ey,en,ek⟩:=cs.cap (i - nt) j ej;have exy:x=y:=by
     have:nt + (i - nt)=i:=by lia
     rw [this] at en;have e1':N[i]? =some x:=e1;rw [e1'] at en;exact Option.some.inj en
    subst exy;have kx:=cs.free (x,.free) (PySem.mem_of_lookup ek) rfl;have vis:Vis X.env.scope x:=by
     rcases kx with kx | kx
     ·exact .inr (.inl kx)
     ·exact .inr (.inr kx)
    obtain ⟨m,hn,hl⟩:=I.loc;obtain ⟨u,ru,lk⟩:=hl j x v ey h2 vis;refine ⟨u,ru,?_⟩;rcases lk with ⟨k1,_⟩ | ⟨k1,c1,ec,hcell⟩
    ·rcases kx with kx | kx
     ·rw [k1] at kx;cases kx
     ·rw [k1] at kx;cases kx
    ·refine .inr ⟨?_,c1,?_,?_⟩
     ·show (relabel scope X.env).names.lookup x=some .cell∨(relabel scope X.env).names.lookup x=some .free;rw [ZDL,ek];simp only [Option.map_some];split
      ·exact .inl rfl
      ·exact .inr rfl
     ·obtain ⟨d1,hd1⟩:=My (env:=X.env) (x:=x) (names:=scope.names) (cs:= []) (.inl (PySem.mem_of_lookup ek));obtain ⟨d2,hd2⟩:=Ox hd1;have:=cs.cl I.ok hd2;rw [ec] at this;cases this;exact hd2
     ·obtain ⟨o,e,dd⟩:=hcell;exact ⟨o,old _ _ e,dd⟩
  ·obtain ⟨v,o,e',dd⟩:=I.cell x d' (cs.cl I.ok e);exact ⟨v,o,old _ _ e',dd⟩
  ·exact I.Gy x d' (cs.cl I.ok e)
  ·exact absurd hp (by simp [B,blk])
  ·show σ0.length=N.length;rw [cs.len];simp [σ0]
 have rS0:RepS a (Bh nt caps S) σ0:=ZI2 rS;have aD:a.H Dd=none:=I.hok.fresh (by rw [hDe];exact Nat.le_refl _);have young:∀b∈fp,b≠C:=λb hb z=>hCf (z ▸ hb)
 have fpB:∀{H':Hp} {ps:List (Addr×Obj)},(∀b∈fp,H' b=none)->(∀p∈ps,p.1 ∉ fp)->∀b∈fp,FpOk B ps H' b:=λ{H' ps} hn hps b hb=>
  ⟨hn b hb,young b hb,okB.exfs b hb,.inl hb,λx d' e=>(hf b hb).2.2.2.2.1 x d' (cs.cl I.ok e),λp hp z=>by
   have hp':p∈ps:=by simpa [B,blk] using hp
   exact hps p hp' (z ▸ hb)⟩
 have nstk:Dd ∉ frs X.stack:=λz=>by
  rcases List.mem_cons.mp (I.Qq Dd z) with z | z
  ·have:=I.lt;rw [hDe,<-z] at this;exact Nat.lt_irrefl _ this
  ·exact I.nofs (by rw [hDe];exact Nat.le_refl _) z
 have pinD:∀{σ':St} {H':Hp} {s':Shared} {its:List Value} {nD:Nat},Inv B [] σ' H' s'->s'.heap.get? Dd=some {cls:=.type "list",data:=.seq its.toArray nD}->H' Dd=none->Inv B [(Dd,{cls:=.type "list",data:=.seq its.toArray nD})] σ' H' s':=λ{σ' H' s' its nD} J e n=>
  J.Gk λp hp=>by
   have ep:p=(Dd,{cls:=.type "list",data:=.seq its.toArray nD}):=by simpa using hp
   subst ep;exact ⟨e,n,hDC,nstk,λv' z=>by cases z⟩
 have fin:∀(s':Shared) (b:Wd) (σ':St) (its:List Value) (ds:List D) (G':DH),Inv B [] σ' b.H s'->Ext a b->Sim b G'->s'.heap.PlainList Dd its.toArray->b.H Dd=none->(∃vs,Vals vs its/\Reps b ds vs)->out E0 b (Ar ds G') Q->RR (.ref Dd) C (.ok .next) s':=by
  intro s' b σ' its ds G' IB x sb pl hD ⟨vs,hv,rv⟩ hq;have hz:ds.length<=1000000:=by
   unfold Ar at hq;split at hq
   ·assumption
   ·exact hq.elim
  have Ix:Inv X pins σ b.H s':=I.call' IB.os IB.base IB.hok IB.bare λb hb=>⟨(hf b hb).2.2.2.1,(hf b hb).2.1,(hf b hb).2.2.2.2.1,(hf b hb).2.2.2.2.2⟩
  obtain ⟨n,eD⟩:=pl;have ylt:∀{q:Addr} {o:Obj},s.heap.get? q=some o->q≠Dd:=λe z=>by rw [z,<-hDe] at e;exact absurd (Heap.lt_size e) (Nat.lt_irrefl _)
  have Ia:Inv X pins σ (upd b.H Dd (.lst vs)) s':=by
   refine Zx Ix hD (by rw [<-hDe];exact I.sz) ?_ (λy c' ec=> ?_) (λp hp=> ?_) ⟨?_,its,n,hv,eD⟩
   ·rw [<-hDe];exact Nat.ne_of_gt I.lt
   ·obtain ⟨v,o,e,_⟩:=I.cell y c' ec;exact ylt e
   ·exact ylt (I.pin p hp).1
   ·rw [<-rv.length];exact Nat.le_trans hz size6
  refine hRR Dd C s' b vs Ia hD hCle hDC (let ⟨m,hn,_⟩:=IB.loc;⟨m,hn⟩) IB.free ?_;unfold Ar at hq;rw [if_pos hz] at hq;exact Ls sb rv hq Dd hD
 have turnX:∀(n:Nat) (P:Nat->Shared->Prop) (rest:DH->R (List D)) (s1:Shared) (b:Wd) (G1:DH) (σ1:St) (its:List Value) (acc:List D) (u:Value) (v:V) (x:D) (i:Nat),Inv B [] σ1 b.H s1->Ext a b->Sim b G1->RepS b (Bh nt caps S) σ1->tn i s1.heap->(∀q∈fp,b.H q=none)->
   s1.heap.PlainList Dd its.toArray->b.H Dd=none->(∃vs,Vals vs its/\Reps b acc vs)->RelV v u->Rep b x v->
   out E0 b (((g x (Bh nt caps S) G1).bind λS1 G1=>(c S1 G1).bind λk G2=>if k=true then (te S1 G2).bind λd G3=>(rest G3).bind λds G4=>.ok (d::ds) G4 else rest G2).bind λds G=>Ar (acc++ds) G) Q->
   (∀(s2:Shared) (b2:Wd) (G2:DH) (σ2:St) (its2:List Value) (acc2:List D),Inv B [] σ2 b2.H s2->Ext a b2->Sim b2 G2->RepS b2 (Bh nt caps S) σ2->tn i s2.heap->(∀q∈fp,b2.H q=none)->
    s2.heap.PlainList Dd its2.toArray->b2.H Dd=none->(∃vs,Vals vs its2/\Reps b2 acc2 vs)->out E0 b2 ((rest G2).bind λds G=>Ar (acc2++ds) G) Q->∃m,m < n/\P m s2)->
   wpAny (model X.prog X.w) X.A (assign tg B.env u) (λ_ s₂=>
     wpAny (model X.prog X.w) X.A (forIn ifs true λc r=>if r=true then do let ok<-isTrue c B.env (eval c B.env);pure (ForInStep.yield ok) else pure (ForInStep.yield r)) (λok s₃=>
      if ok=true then wpAny (model X.prog X.w) X.A (eval elt B.env) (λx s₄=>
       wpAny (model X.prog X.w) X.A (call (.builtin "list.append") [.ref Dd,x]) (λ_ s₅=>∃m,m < n/\P m s₅) (λ_ _=>False) s₄) (λ_ _=>False) s₃
      else∃m,m < n/\P m s₃) (λ_ _=>False) s₂) (λ_ _=>False) s1:=by
  intro n P rest s1 b G1 σ1 its acc u v x i I1 x1 sb rSb t1 hfp pl hD hacc' ru rx hq next
  rw [R.bind_assoc] at hq;obtain ⟨nD,eD⟩:=id pl;let pinD:List (Addr×Obj):= [(Dd,{cls:=.type "list",data:=.seq its.toArray nD})];have pinOk:∀{σ':St} {H':Hp} {s':Shared},Inv B (pinD++Mr fp s1.heap) σ' H' s'->s'.heap.PlainList Dd its.toArray/\H' Dd=none/\tn i s'.heap/\∀q∈fp,H' q=none:=λ{σ' H' s'} J=>by
   have p1:=J.pin (Dd,{cls:=.type "list",data:=.seq its.toArray nD}) (List.mem_append_right _ (List.mem_append_left _ (by simp [pinD])));refine ⟨⟨nD,p1.1⟩,p1.2.1,T.keep _ _ _ t1 λq hq' o e=>(J.pin (q,o) (List.mem_append_right _ (List.mem_append_right _ (Vw hq' e)))).1,λq hq'=> ?_⟩;obtain ⟨o,e,_⟩:=T.obj _ _ t1 q hq';exact (J.pin (q,o) (List.mem_append_right _ (List.mem_append_right _ (Vw hq' e)))).2.1
  have I2:Inv B (pinD++Mr fp s1.heap) σ1 b.H s1:=I1.Gk λp hp=>by
   rcases List.mem_append.mp hp with hp | hp
   ·have e:p=(Dd,{cls:=.type "list",data:=.seq its.toArray nD}):=by simpa [pinD] using hp
    subst e;refine ⟨eD,hD,hDC,λz=> ?_,λv' z=>by cases z⟩;exact nstk z
   ·obtain ⟨hb,e⟩:=ZB3 hp;obtain ⟨f0,f1,f2,_⟩:=fpB (ps:= []) hfp (λp hp=>by cases hp) p.1 hb;obtain ⟨o,e',dd⟩:=T.obj _ _ t1 p.1 hb;rw [e] at e';cases e';exact ⟨e,f0,f1,f2,dd⟩
  refine thn (hg C s a.H fp _ s1 σ1 b.H v u _ I2 ru ⟨b,Bh nt caps S,G1,x,x1.k.trans hk,rfl,sb,rSb,rx,(ZII hq).imp λ_ _ z=>z⟩) ?_;rintro _ s2 ⟨σ2,H2',J2,b2,S2,G2,rfl,y2,sb2,rS2,eg,hq2⟩;rw [R.bind_assoc] at hq2;have rS2':RepS b2 (Bh nt caps S) σ2:=⟨by have h1:=J2.len;have h2:σ1.length=N.length:=I1.len;rw [rSb.len,h2];exact h1.symm,λj e' hj=>rS2.get j e' (gk _ _ _ _ _ eg j e' (ZHC hj) hj)⟩
  refine thn (hts C s a.H fp _ s2 σ2 b2.H _ J2 ⟨b2,S2,G2,y2.k.trans (x1.k.trans hk),rfl,sb2,rS2,(ZAh hq2).imp λ_ _ z=>z⟩) ?_;rintro k s3 ⟨H3,J3,b3,G3,rfl,y3,sb3,_,hq3⟩;cases k with
  | false=>
   obtain ⟨p1,p2,p3,p4⟩:=pinOk J3;have Jn:Inv B [] σ2 b3.H s3:=J3.Gk λp hp=>by cases hp
   obtain ⟨vs,hv,rv⟩:=hacc'
   exact next s3 b3 G3 σ2 its acc Jn (x1.trans (y2.trans y3)) sb3 (rS2'.mono y3) p3 p4 p1 p2 ⟨vs,hv,(rv.mono y2).mono y3⟩ hq3
  | true=>
   have hq3':out E0 b3 (((te S2 G3).bind λd G3=>(rest G3).bind λds G4=>.ok (d::ds) G4).bind λds G=>Ar (acc++ds) G) Q:=hq3;rw [R.bind_assoc] at hq3';refine thn (he C s a.H fp _ s3 σ2 b3.H _ J3 ⟨b3,S2,G3,y3.k.trans (y2.k.trans (x1.k.trans hk)),rfl,sb3,rS2.mono y3,(Ec hq3').imp λ_ _ z=>z⟩) ?_;rintro w s4 ⟨vw,H4,J4,rw',b4,d4,G4,rfl,y4,sb4,q4,_,hq4⟩;obtain ⟨p1,p2,p3,p4⟩:=pinOk J4;rw [R.bind_assoc] at hq4
   have hq4':out E0 b4 ((rest G4).bind λds G=>Ar ((acc++ [d4])++ds) G) Q:=by
    have e:(λ(ds:List D) (G:DH)=>(R.ok (d4::ds) G).bind λds G=>Ar (acc++ds) G)=λds G=>Ar ((acc++ [d4])++ds) G:=by funext ds G;simp
    rw [<-e];exact hq4
   obtain ⟨vs,hv,rv⟩:=hacc';have hsz:its.toArray.size<=sizeLine:=by
    have:acc.length<=1000000:=by
     cases hr:rest G4 with
     | ok ds G5=>
      rw [hr] at hq4';have hq5:out E0 b4 (Ar ((acc++ [d4])++ds) G5) Q:=hq4';unfold Ar at hq5;split at hq5
      ·rename_i hl;simp at hl;lia
      ·exact hq5.elim
     | err e' G5=>rw [hr] at hq4';exact hq4'.elim
     | bad=>rw [hr] at hq4';exact hq4'.elim
    rw [List.size_toArray,<-hv.length,<-rv.length];exact Nat.le_trans this size6
   refine wpAny_list_append_plain p1 (λh' hpl hsb=> ?_) hsz;have Jn:Inv B [] σ2 b4.H s4:=J4.Gk λp hp=>by cases hp
   have J5:Inv B [] σ2 b4.H {s4 with heap:=h'}:=by refine Jn.turned (it:=Dd) (t':=s4.toks) (λq o hq' e=>(hsb.2 q hq').trans e) p2 hDC (.inr (by show s.heap.objs.size<=Dd;rw [hDe];exact Nat.le_refl _)) (λy c' ec=> ?_) (λp hp=>absurd hp (by simp [B,blk]));obtain ⟨v',o,e,_⟩:=I.cell y c' (cs.cl I.ok ec);intro z;rw [z,<-hDe] at e;exact absurd (Heap.lt_size e) (Nat.lt_irrefl _)
   refine next _ b4 G4 σ2 (its++ [w]) (acc++ [d4]) J5 (x1.trans (y2.trans (y3.trans y4))) sb4 ((rS2'.mono y3).mono y4) (T.keep _ _ _ p3 λq hq' o e=>(hsb.2 q (λz=>hDf (z ▸ hq'))).trans e) p4 (by simpa using hpl) p2 ⟨vs++ [vw],hv.append (.cons rw' .nil),(((rv.mono y2).mono y3).mono y4).append (Reps.cons q4 Reps.nil)⟩ hq4'
 have loop:∀s₃:Shared,s₃={s with heap:=h₁,toks:=s.toks + ([]:List (Str×Value)).length}->
   codeAny (model X.prog X.w) X.A (.compLoop (.ListComp elt [⟨tg,iter,ifs,0⟩] scope pos) 0 (.ref i0) (.ref Dd) B.env) (RR (.ref Dd) C) s₃:=by
  rintro s₃ rfl;have t1:tn 0 h₁:=T.keep _ _ _ t0 λq _ o e=>old q o e
  have fp0:∀q∈fp,a.H q=none:=λq hq=>(hf q hq).1
  have walk:∀b:Wd,Ext a b->∀G,Sim b G->∀i,(∀d,f i G=some (some d)->J.go i b.H/\∀x H',J.yld i b.H x H'->∃c:Wd,c.H=H'/\Ext b c/\Sim c G/\Rep c d x)/\(f i G=some none->J.stop i b.H):=rJ;refine ZJq (λm s'=>∃(i:Nat) (b:Wd) (G':DH) (σ':St) (its:List Value) (acc:List D),Inv B [] σ' b.H s'/\Ext a b/\Sim b G'/\RepS b (Bh nt caps S) σ'/\tn i s'.heap/\(∀q∈fp,b.H q=none)/\s'.heap.PlainList Dd its.toArray/\b.H Dd=none/\(∃vs,Vals vs its/\Reps b acc vs)/\
   out E0 b ((De f g c te (Bh nt caps S) m i G').bind λds G=>Ar (acc++ds) G) Q) ?_ n0 ⟨0,a,G,σ0,[],[],start _,Ext.refl a,sm,rS0,t1,fp0,hacc,aD,⟨[],.nil,rfl⟩,by simpa using h⟩
  rintro m s' ⟨i,b,G',σ',its,acc,IB,x,sb,rSb,ti,hfp,pl,hD,hac,hq⟩;obtain ⟨nD,eD⟩:=pl;have I0:=pinD IB eD hD;have f0:=fpB (ps:= [(Dd,{cls:=.type "list",data:=.seq its.toArray nD})]) hfp (λp hp=>by
   have ep:p=(Dd,{cls:=.type "list",data:=.seq its.toArray nD}):=by simpa using hp
   subst ep;exact hDf)
  have stop:J.stop i b.H->out E0 b (Ar acc G') Q->wpAny (model X.prog X.w) X.A (pyNext (.ref i0)) (λr s₁=>match r with
    | none=>RR (.ref Dd) C (.ok .next) s₁
    | some v=>wpAny (model X.prog X.w) X.A (letOwnedTupleGo tg (.ref i0) v) (λ_ s₁=>wpAny (model X.prog X.w) X.A (assign tg B.env v) (λ_ s₂=>
     wpAny (model X.prog X.w) X.A (forIn ifs true λc r=>if r=true then do let ok<-isTrue c B.env (eval c B.env);pure (ForInStep.yield ok) else pure (ForInStep.yield r)) (λok s₃=>
      if ok=true then wpAny (model X.prog X.w) X.A (eval elt B.env) (λx s₄=>
       wpAny (model X.prog X.w) X.A (call (.builtin "list.append") [.ref Dd,x]) (λ_ s₅=>∃m',m' < m/\∃(i:Nat) (b:Wd) (G':DH) (σ':St) (its:List Value) (acc:List D),Inv B [] σ' b.H s₅/\Ext a b/\Sim b G'/\RepS b (Bh nt caps S) σ'/\tn i s₅.heap/\(∀q∈fp,b.H q=none)/\s₅.heap.PlainList Dd its.toArray/\b.H Dd=none/\(∃vs,Vals vs its/\Reps b acc vs)/\
        out E0 b ((De f g c te (Bh nt caps S) m' i G').bind λds G=>Ar (acc++ds) G) Q) (λ_ _=>False) s₄) (λ_ _=>False) s₃
      else∃m',m' < m/\∃(i:Nat) (b:Wd) (G':DH) (σ':St) (its:List Value) (acc:List D),Inv B [] σ' b.H s₃/\Ext a b/\Sim b G'/\RepS b (Bh nt caps S) σ'/\tn i s₃.heap/\(∀q∈fp,b.H q=none)/\s₃.heap.PlainList Dd its.toArray/\b.H Dd=none/\(∃vs,Vals vs its/\Reps b acc vs)/\
        out E0 b ((De f g c te (Bh nt caps S) m' i G').bind λds G=>Ar (acc++ds) G) Q) (λ_ _=>False) s₂) (λ_ _=>False) s₁) (λ_ _=>False) s₁) (λ_ _=>False) s':=by
   intro st hq';refine thn (T.done B rfl rfl rfl hc i _ s' σ' b.H _ I0 f0 ti st) ?_;rintro r s1 ⟨rfl,I2⟩;have pD:=(I2.pin (Dd,{cls:=.type "list",data:=.seq its.toArray nD}) (List.mem_append_right _ (by simp))).1;exact fin s1 b σ' its acc G' (I2.Gk λp hp=>by cases hp) x sb ⟨nD,pD⟩ hD hac hq'
  cases m with
  | zero=>
   unfold De at hq;split at hq
   ·rename_i hf;exact stop ((walk b x G' sb i).2 hf) (by have hq':out E0 b (Ar (acc++ []) G') Q:=hq;rw [List.append_nil] at hq';exact hq')
   ·exact hq.elim
  | succ m=>
   unfold De at hq;split at hq
   ·rename_i d1 hf;obtain ⟨go,yl⟩:=(walk b x G' sb i).1 d1 hf;refine thn (T.item B rfl rfl rfl hc i _ s' σ' b.H _ I0 f0 ti go) ?_;rintro r s1 ⟨u,rfl,hgo⟩;refine thn hgo ?_;rintro _ s2 ⟨v,H',I2,ru,y,t2,hfp2⟩;obtain ⟨cc,rfl,xx,ss,rd⟩:=yl v H' y;have pD:=I2.pin (Dd,{cls:=.type "list",data:=.seq its.toArray nD}) (List.mem_append_right _ (by simp));obtain ⟨vs1,hv1,rv1⟩:=hac;refine turnX _ _ (λG3=>De f g c te (Bh nt caps S) m (i + 1) G3) s2 cc G' σ' its acc u _ d1 (i + 1) (I2.Gk λp hp=>by cases hp) (x.trans xx) ss (rSb.mono xx) t2 hfp2 ⟨nD,pD.1⟩ pD.2.1 ⟨vs1,hv1,rv1.mono xx⟩ ru rd (out.mono xx hq) ?_
    intro s3 b3 G3 σ3 its3 acc3 a1 a2 a3 a4 a5 a6 a7 a8 a9 a10;exact ⟨m,Nat.lt_succ_self _,i + 1,b3,G3,σ3,its3,acc3,a1,a2,a3,a4,a5,a6,a7,a8,a9,a10⟩
   ·rename_i hf;exact stop ((walk b x G' sb i).2 hf) (by have hq':out E0 b (Ar (acc++ []) G') Q:=hq;rw [List.append_nil] at hq';exact hq')
   ·exact hq.elim
 exact codeAny_compStart_list (loop _ rfl) (T.self _ 0 _ _ _ (T.keep _ _ _ t0 λq _ o e=>old q o e) (loop _ rfl))
theorem ZAa:∀(n j:Nat) (G:DH),j + n=xs.length->Df g c te S (xs.drop j) G=De (λj _=>some xs[j]?) g c te S n j G
 | 0,j,G,h=>by
  rw [List.drop_of_length_le (by lia)]
  show _=(match some xs[j]? with | some none=>R.ok [] G | _=>.bad)
  rw [List.getElem?_eq_none (by lia)]
  rfl
 | n + 1,j,G,h=>by
  have hj:j < xs.length:=by lia
  rw [List.drop_eq_getElem_cons hj]
  show (g xs[j] S G).bind _=(match some xs[j]? with | some (some x)=>_ | some none=>R.ok [] G | none=>.bad)
  rw [List.getElem?_eq_getElem hj];dsimp only
  congr 1
  funext S1 G1
  congr 1
  funext k G2;rw [ZAa n (j + 1) G2 (by lia)]
  congr 1
  congr 1
  funext d G3;rw [ZAa n (j + 1) G3 (by lia)]
theorem ZCG:∀(n j:Nat) (G:DH),Dy i g c te S n j G=De (mtF i) g c te S n j G
 | 0,j,G=>by
  unfold Dy De mtF;cases G[i]? with
  | none=>rfl
  | some o=>
   cases o with
   | lst xs=>
    dsimp only;by_cases hj:j < xs.length
    ·rw [if_neg (by lia),List.getElem?_eq_getElem hj]
    ·rw [if_pos (by lia),List.getElem?_eq_none (by lia)]
   | _=>rfl
 | n + 1,j,G=>by
  have ih:(Dy i g c te S n (j + 1))=De (mtF i) g c te S n (j + 1):=funext λG=>ZCG n (j + 1) G
  unfold Dy De;rw [ih];unfold mtF;cases G[i]? with
  | none=>rfl
  | some o=>
   cases o with
   | lst xs=>
    dsimp only
    cases xs[j]? <;> rfl
   | _=>rfl
theorem ZDi (hc:X.calm=true) (cs:CompSc X N scope nt caps)
  (hg:∀C s₀ H₀ ex,QG (blk X N scope C s₀ H₀ ex) E0 tg g) (gk:GK nt g) (hts:∀C s₀ H₀ ex,QTs (blk X N scope C s₀ H₀ ex) E0 ifs c) (he:∀C s₀ H₀ ex,QE (blk X N scope C s₀ H₀ ex) E0 elt te)
  {pins:List (Addr×Obj)} {σ:St} {s:Shared} {a:Wd} {S:DSt} {G:DH} {J:It} {d:ItD} {i0:Addr} {fp:List Addr} {tn:Nat->Heap->Prop} (I:Inv X pins σ a.H s) (hk:a.K=X.K) (sm:Sim a G) (rS:RepS a S σ)
  (T:Turn X.prog X.w X.K tg J fp i0 tn) (t0:tn 0 s.heap) (hf:∀b∈fp,FpOk X pins a.H b) (rJ:RepI a d J) {Q:VK}
  (h:out E0 a ((match d with
   | .pure xs=>Df g c te (Bh nt caps S) xs G
   | .mt i=>match G[i]? with
    | some (.lst xs)=>Dy i g c te (Bh nt caps S) xs.length 0 G
    | _=>.bad
   | .fn n f=>De f g c te (Bh nt caps S) n 0 G).bind Ar) Q)
  {RR:Value->Addr->Result->Shared->Prop} {E':Value->Shared->Prop}
  (hRR:∀(D C:Addr) (s':Shared) (b:Wd) (vs:List V),Inv X pins σ (upd b.H D (.lst vs)) s'->b.H D=none->s.heap.objs.size<=C->D≠C->(∃m,s'.heap.Ns C m)->b.H C=none->Q (.ref D) (upd b.H D (.lst vs))->RR (.ref D) C (.ok .next) s'):
  wpAny (model X.prog X.w) X.A (newList []) (λacc s₃=>wpAny (model X.prog X.w) X.A (newFunctionEnv scope X.env.globals (Cq X.env scope.names []) [] X.env.qual none .none (some X.env)) (λcenv s₄=>
   codeAny (model X.prog X.w) X.A (.compStart (.ListComp elt [⟨tg,iter,ifs,0⟩] scope pos) 0 (.ref i0) acc {cenv with scope:=relabel scope X.env}) (RR acc cenv.locals) s₄) E' s₃) E' s:=by
 cases d with
 | pure xs=>
  have h':out E0 a ((Df g c te (Bh nt caps S) (xs.drop 0) G).bind Ar) Q:=h;rw [ZAa xs.length 0 G (by lia)] at h';exact Zd hc cs hg gk hts he I hk sm rS T t0 hf (ZB5 rJ) h' hRR
 | mt k=>
  dsimp only at h;split at h
  ·rename_i xs hx;rw [ZCG] at h;exact Zd hc cs hg gk hts he I hk sm rS T t0 hf (ZBA rJ) h hRR
  ·exact h.elim
 | fn n0 f=>exact Zd hc cs hg gk hts he I hk sm rS T t0 hf rJ h hRR
end
section
variable {X:Cx} {N:List Str} {scope:Scope} {nt:Nat} {caps:List Nat} {tg elt iter:Expr} {ifs:List Expr} {pos:Pos} {it:DI} {g:DG} {c:DB} {te:DE}
theorem letGo {pins:List (Addr×Obj)} {s2 s':Shared} {h':Heap} {C:Addr} {t':Nat} {σ2:St} {H2:Hp} (I2:Inv X pins σ2 H2 s2) (Ia:Inv X pins σ H s') (hC:s2.heap.objs.size<=C) (hn:H C=none) (hsb:Heap.SameBut C s'.heap h'):Inv X pins σ H {s' with heap:=h',toks:=t'}:=by
 have young:∀{b:Addr} {o:Obj},s2.heap.get? b=some o->b≠C:=λe z=>by rw [z] at e;exact absurd (Nat.lt_of_lt_of_le (Heap.lt_size e) hC) (Nat.lt_irrefl _)
 refine Ia.turned (it:=C) (λb o hb e=>(hsb.2 b hb).trans e) hn (Nat.ne_of_gt (Nat.lt_of_lt_of_le I2.lt hC)) (.inr (Nat.le_trans I2.sz hC)) (λx c' e=> ?_) λp hp=> ?_
 ·obtain ⟨v,o,e',_⟩:=I2.cell x c' e;exact young e'
 ·exact young (I2.pin p hp).1
theorem Ju (hc:X.calm=true) (cs:CompSc X N scope nt caps) (hi:QI X E0 tg iter it)
  (hg:∀C s₀ H₀ ex,QG (blk X N scope C s₀ H₀ ex) E0 tg g) (gk:GK nt g) (hts:∀C s₀ H₀ ex,QTs (blk X N scope C s₀ H₀ ex) E0 ifs c) (he:∀C s₀ H₀ ex,QE (blk X N scope C s₀ H₀ ex) E0 elt te)
  (hs:∀x,foldedSetIterable iter X.env x=pure x:=by intro _;rfl):QE X E0 (.ListComp elt [⟨tg,iter,ifs,0⟩] scope pos) (Eo it nt caps g c te):=by
 intro pins s σ H Q I h;obtain ⟨a,S,G,hk,rfl,sm,r,h⟩:=h;rw [eval_ListComp];refine wpAny_comprehension_free (use:=none) rfl hs (ZAW (cs.cells I.ok)) cs.kind cs.names (thn (hi pins s σ a.H _ I ⟨a,S,G,hk,rfl,sm,r,(ZB7 h).imp λ_ _ z=>z⟩) λxv s1 h1=>thn h1 λitv s2 h2=> ?_);obtain ⟨i0,fp,tn,J,H2,rfl,I2,T,t0,f2,b,d,G1,rfl,x,sb,rJ,_,h1⟩:=h2;refine ZDi hc cs hg gk hts he I2 (x.k.trans hk) sb (r.mono x) T t0 f2 rJ h1 (RR:=λacc C=>compPost (model X.prog X.w) X.A X.xe none (EP X pins σ Q) acc C) ?_
 intro D C s' b vs Ia hD hCle hDC ⟨m,hn⟩ hCn hq;refine ⟨m,hn,λh' hsb=>⟨.ref D,_,letGo I2 Ia hCle ?_ hsb,rfl,hq⟩⟩;rw [Ao (Ne.symm hDC)];exact hCn
theorem ZAU (i:Nat) {y:Str} {py spos:Pos} (hc:X.calm=true) (hN:X.N.Nodup) (cs:CompSc X N scope nt caps) (hi:QI X E0 tg iter it)
  (hg:∀C s₀ H₀ ex,QG (blk X N scope C s₀ H₀ ex) E0 tg g) (gk:GK nt g) (hts:∀C s₀ H₀ ex,QTs (blk X N scope C s₀ H₀ ex) E0 ifs c) (he:∀C s₀ H₀ ex,QE (blk X N scope C s₀ H₀ ex) E0 elt te)
  (hy:X.N[i]? =some y:=by rfl) (hx:Loc X.env.scope y:=by first | exact Or.inl rfl | exact Or.inr rfl) (hf:X.fn y=true∨X.env.scope.names.lookup y=some .local:=by first | exact .inl rfl | exact .inr rfl | assumption)
  (hsw:swapsWith (.ListComp elt [⟨tg,iter,ifs,0⟩] scope pos) (some (.Name y py)) spos.line X.env=pure true:=by rfl)
  (hs:∀x,foldedSetIterable iter X.env x=pure x:=by intro _;rfl):QS X E0 (.Assign [.Name y py] (.ListComp elt [⟨tg,iter,ifs,0⟩] scope pos) spos) (sAs (Eo it nt caps g c te) (gV i)):=by
 intro pins s σ H W I h;obtain ⟨a,S,G,hk,rfl,sm,r,h⟩:=h;have h0:=Hg h;rw [exec_Assign_Name_used _ _ _ _ hsw];refine wpAny_bind (wpAny_standAt (wpAny_bind ?_))
 show wpAny _ X.A (do let _<-comprehension (.ListComp elt [⟨tg,iter,ifs,0⟩] scope pos) scope X.env _ (newList []) false (eval iter X.env) (some (assign (.Name y py) X.env))) _ _ s
 refine wpAny_bind (wpAny_mono (wpAny_comprehension_free (use:=some (assign (.Name y py) X.env)) (Q:=λ_ s'=>SP X pins W .next s') rfl hs (ZAW (cs.cells I.ok)) cs.kind cs.names
  (thn (hi pins s σ a.H _ I ⟨a,S,G,hk,rfl,sm,r,(ZB7 h0).imp λ_ _ z=>z⟩) λxv s1 h1=>thn h1 λitv s2 h2=> ?_)) (λ_ s' hq=>wpAny_pure (wpAny_pure hq)) λ_ _ e=>e)
 obtain ⟨i0,fp,tn,J,H2,rfl,I2,T,t0,f2,b,d,G1,rfl,x,sb,rJ,_,h1⟩:=h2
 refine ZDi hc cs hg gk hts he I2 (x.k.trans hk) sb (r.mono x) T t0 f2 rJ h1 (RR:=λacc C=>compPost (model X.prog X.w) X.A X.xe (some (assign (.Name y py) X.env)) (λ_ s'=>SP X pins W .next s') acc C) ?_
 intro D C s' b' vs Ia hD hCle hDC ⟨m,hn⟩ hCn hq;show wpAny _ X.A (assign (.Name y py) X.env (.ref D)) _ _ _;refine wpAny_assign_Name (ZDt Ia hN hy hx (v:=.ref D) rfl (λs'' I'' hch=> ?_) hf);obtain ⟨a',hsb',ha'⟩:=hch;have hCa:C≠a':=by
  rintro rfl;rcases ha' with rfl | ha'
  ·exact absurd (Nat.lt_of_lt_of_le I2.lt hCle) (Nat.lt_irrefl _)
  ·obtain ⟨v,o,e',_⟩:=I2.cell _ _ ha';exact absurd (Nat.lt_of_lt_of_le (Heap.lt_size e') hCle) (Nat.lt_irrefl _)
 refine ⟨m,hn.sameBut hsb' hCa,λh' hsb=>⟨_,_,letGo I2 I'' hCle ?_ hsb,?_⟩⟩
 ·rw [Ao (Ne.symm hDC)];exact hCn
 ·obtain ⟨b3,d3,G3,e3,x3,s3,q3,_,h3⟩:=hq;rw [<-e3];exact h3 b3 _ (Ext.refl b3) s3 ((r.mono x3).set i q3)
end
noncomputable def Ja:D->DH->R D
 | .int i,G=>.ok (.int (-i)) G
 | _,_=>.bad
noncomputable def Ew:D->Bool
 | .non=>true
 | _=>false
noncomputable def Jd:D->D->DH->R D
 | d,.non,G=>.ok (.bl (Ew d)) G
 | _,_,_=>.bad
noncomputable def Px:D->D->DH->R D
 | d,.non,G=>.ok (.bl (!Ew d)) G
 | _,_,_=>.bad
noncomputable def O6:D->Option V
 | .non=>some .non
 | .bl b=>some (.bl b)
 | .int i=>some (.int i)
 | .str x=>some (.str x)
 | _=>none
noncomputable def Jz:List D->Option (List V)
 | []=>some []
 | d::r=>match O6 d,Jz r with
  | some v,some vs=>some (v::vs)
  | _,_=>none
noncomputable def inD (d e:D) (G:DH):Option Bool:=match e with
 | .str j=>match d with
  | .str i=>some (!(Builtin.Str.occurrences j i 0 j.length 1).isEmpty)
  | _=>none
 | e=>match Br e G,O6 d with
  | some xs,some v=>(Jz xs).map λvs=>inV v vs
  | _,_=>none
noncomputable def opIn (d e:D) (G:DH):R D:=match inD d e G with
 | some k=>.ok (.bl k) G
 | none=>.bad
noncomputable def Pa (d e:D) (G:DH):R D:=match inD d e G with
 | some k=>.ok (.bl (!k)) G
 | none=>.bad
section
variable {X:Cx} {E:XK} {a b:Expr} {ta tb:DE} {pos:Pos}
theorem Ke:UnR X (unaryOp .USub) (lR1 X.K E Ja):=λpins s σ H x v Q I rx h=>by
 obtain ⟨a,G,d,hk,rfl,sm,rd,q⟩:=h;cases d with
 | int i=>exact ZF9 pins s σ a.H x v Q I rx ⟨i,rd,q a _ (Ext.refl a) sm rfl⟩
 | _=>exact q.elim
theorem Lg {op:UnaryOp} {f:D->DH->R D} (ho:UnR X (unaryOp op) (lR1 X.K E f)) (ha:QE X E a ta):QE X E (.UnaryOp op a pos) (dUn f ta):=(ZHa ho ha).mono λσ H Q h=>by obtain ⟨a,S,G,hk,rfl,s,r,h⟩:=h;refine ⟨a,S,G,hk,rfl,s,r,(Ec h).imp ?_⟩;rintro v _ ⟨b,d,G1,rfl,x,s1,q,-,h1⟩;exact ⟨b,G1,d,x.k.trans hk,rfl,s1,q,h1⟩
theorem Oh {n:String} (hg:Gl X x) (hm:X.mg x=none) (hv:bootBuiltins x=some (.type n)) (hn:x≠"__name__":=by decide) (hd:(x == ("__debug__":Str))=false:=by decide):QE X E (.Name x pos) (dC (.ty n)):=
 (ZGg (v:=.ty n) hg hm hv rfl hn hd).mono λσ H Q h=>Oc h λ_ _=>rfl
theorem ZBH {a:Wd} {x:V} (rd:Rep a d x):decide (x=V.non)=Ew d:=by
 cases d with
 | non=>rw [show x=V.non from rd];rfl
 | bl _=>rw [show x=V.bl _ from rd];rfl
 | int _=>rw [show x=V.int _ from rd];rfl
 | str _=>rw [show x=V.str _ from rd];rfl
 | ty _=>rw [show x=V.ty _ from rd];rfl
 | tup _=>obtain ⟨p,vs,rfl,_⟩:=rd;rfl
 | fl _=>obtain ⟨p,vs,rfl,_⟩:=rd;rfl
 | ref _=>rw [rd.2];rfl
theorem Vs:OpR X (compareOp .Is) (lR2 X.K E Jd):=Fq ZGV λa G d e x y Q hk s rd re q=>by
 cases e with
 | non=>exact ⟨re,by rw [ZBH rd];cases d <;> exact q a _ (Ext.refl a) s rfl⟩
 | _=>cases d <;> exact q.elim
theorem Yv:OpR X (compareOp .IsNot) (lR2 X.K E Px):=Fq ZGy λa G d e x y Q hk s rd re q=>by
 cases e with
 | non=>exact ⟨re,by rw [ZBH rd];cases d <;> exact q a _ (Ext.refl a) s rfl⟩
 | _=>cases d <;> exact q.elim
theorem ZCz {a:Wd} {x:V} (r:Rep a d x) (h:O6 d=some v):x=v/\Dm v=true:=by
 cases d <;> first
  | (cases h;exact ⟨r,rfl⟩)
  | cases h
theorem ZBs {a:Wd}:∀{ds:List D} {xs vs:List V},Reps a ds xs->Jz ds=some vs->xs=vs/\vs.all Dm=true
 | [],xs,vs,r,h=>by cases h;exact ⟨r,rfl⟩
 | d::ds,xs,vs,r,h=>by
  obtain ⟨x,r',rfl,r1,r2⟩:=r;unfold Jz at h;split at h
  ·rename_i v ws h1 h2;cases h;obtain ⟨e1,f1⟩:=ZCz r1 h1;obtain ⟨e2,f2⟩:=ZBs r2 h2;subst e1;subst e2;exact ⟨rfl,by rw [List.all_cons,f1,f2];rfl⟩
  ·cases h
theorem ZEO {a:Wd} {e:D} {x:V} {k:Bool} (s:Sim a G) (rd:Rep a d x) (re:Rep a e y) (h:inD d e G=some k):
  (∃i j,x=.str i/\y=.str j/\k= !(Builtin.Str.occurrences j i 0 j.length 1).isEmpty)∨(∃p xs,y=.ref p/\(SqL a.K a.H p xs∨SqT a.K a.H p xs)/\Dm x=true/\xs.all Dm=true/\k=inV x xs):=by
 have seq:(match Br e G,O6 d with | some xs,some v=>(Jz xs).map λvs=>inV v vs | _,_=>none)=some k->(∃p xs,y=.ref p/\(SqL a.K a.H p xs∨SqT a.K a.H p xs)/\Dm x=true/\xs.all Dm=true/\k=inV x xs):=λh=>by
  split at h
  ·rename_i xs v h1 h2;obtain ⟨p,ws,e1,q,r1⟩:=Ms s re h1;obtain ⟨e2,f2⟩:=ZCz rd h2;subst e2;rw [Option.map_eq_some_iff] at h;obtain ⟨us,h3,h4⟩:=h;obtain ⟨e3,f3⟩:=ZBs r1 h3;subst e3;exact ⟨p,ws,e1,q,f2,f3,h4.symm⟩
  ·cases h
 cases e with
 | str j=>
  cases d with
  | str i=>exact .inl ⟨i,j,rd,re,(Option.some.inj h).symm⟩
  | _=>cases h
 | tup xs=>exact .inr (seq h)
 | fl xs=>exact .inr (seq h)
 | ref i=>exact .inr (seq h)
 | _=>exact .inr (seq h)
theorem ZK5:OpR X (compareOp .NotIn) (lR2 X.K E Pa):=Fq (ZHo.or ZGJ) λa G d e x y Q hk s rd re q=>by
 unfold Pa at q;split at q
 ·rename_i k h;have z:=q a _ (Ext.refl a) s rfl;rcases ZEO s rd re h with ⟨i,j,e1,e2,rfl⟩ | ⟨p,xs,e1,hq,f1,f2,rfl⟩
  ·exact .inl ⟨i,j,e1,e2,z⟩
  ·exact .inr ⟨p,xs,e1,by rw [<-hk];exact hq,f1,f2,z⟩
 ·exact q.elim
end
theorem Nv:bootBuiltins "isinstance"=some (.builtin "isinstance"):=by decide +kernel
theorem ZFr:bootBuiltins "all"=some (.builtin "all"):=by decide +kernel
theorem R7:bootBuiltins "sum"=some (.builtin "sum"):=by decide +kernel
theorem ZHF:bootBuiltins "max"=some (.builtin "max"):=by decide +kernel
theorem R9:bootBuiltins "min"=some (.builtin "min"):=by decide +kernel
theorem Ha:bootBuiltins "len"=some (.builtin "len"):=by decide +kernel
theorem ZAK:bootBuiltins "int"=some (.type "int"):=by decide +kernel
theorem ZKB:bootBuiltins "bool"=some (.type "bool"):=by decide +kernel
theorem ZGA:bootBuiltins "tuple"=some (.type "tuple"):=by decide +kernel
theorem Ly:bootBuiltins "list"=some (.type "list"):=by decide +kernel
noncomputable def Kv:NameKind->Bool | .local=>true | _=>false
noncomputable def Ky:NameKind->Bool | .cell=>true | _=>false
noncomputable def Jx:NameKind->Bool | .free=>true | _=>false
noncomputable def isK (p:NameKind->Bool):Option NameKind->Bool | some k=>p k | none=>false
theorem ZFN {k:NameKind} (h:Kv k=true):k=.local:=by cases k <;> first | rfl | cases h
theorem ZD5 {k:NameKind} (h:Ky k=true):k=.cell:=by cases k <;> first | rfl | cases h
theorem ZAw {k:NameKind} (h:Jx k=true):k=.free:=by cases k <;> first | rfl | cases h
theorem Uv {p:NameKind->Bool} {k:NameKind} (hp:∀k',p k'=true->k'=k) {o:Option NameKind} (h:isK p o=true):o=some k:=by
 cases o with
 | none=>cases h
 | some k'=>rw [hp _ h]
noncomputable def ZB8 (dn:List (Str×NameKind)) (N0 N:List Str) (names:List (Str×NameKind)) (nt:Nat) (caps:List Nat):Bool:=
 names.all (λy=>(!Kv y.2 || isK Kv (names.lookup y.1)) && !Ky y.2 && (!Jx y.2 || isK Ky (dn.lookup y.1) || isK Jx (dn.lookup y.1))) && decide N.Nodup && decide (N.length=nt + caps.length) &&
 (List.range caps.length).all λk=>match caps[k]? with
  | some j=>match N0[j]? with
   | some x=>decide (N[nt + k]? =some x) && isK Jx (names.lookup x)
   | none=>false
  | none=>true
theorem Gs {X:Cx} {N0 N:List Str} {nt:Nat} {caps:List Nat} {dn:List (Str×NameKind)} (hk:scope.kind=.function:=by rfl) (hdn:∀x,X.env.kindOf x=dn.lookup x:=by intro _;rfl) (hN:X.N=N0:=by rfl)
  (h:ZB8 dn N0 N scope.names nt caps=true:=by decide +kernel):CompSc X N scope nt caps:=by
 unfold ZB8 at h;rw [Bool.and_eq_true,Bool.and_eq_true,Bool.and_eq_true] at h;obtain ⟨⟨⟨h1,h2⟩,h3⟩,h4⟩:=h;rw [List.all_eq_true] at h1 h4;have key:=λ(y:Str×NameKind) (hy:y∈scope.names)=>(by have:=h1 y hy;rw [Bool.and_eq_true,Bool.and_eq_true] at this;exact this:((!Kv y.2 || isK Kv (scope.names.lookup y.1))=true/\(!Ky y.2)=true)/\(!Jx y.2 || isK Ky (dn.lookup y.1) || isK Jx (dn.lookup y.1))=true)
 refine ⟨hk,λy hy hl=> ?_,λy hy hl=> ?_,λy hy hl=> ?_,of_decide_eq_true h2,of_decide_eq_true h3,λk j hj=> ?_⟩
 ·have:=(key y hy).1.1;rw [hl] at this;exact Uv (p:=Kv) (λ_ h=>ZFN h) (by have t:(false || isK Kv (scope.names.lookup y.1))=true:=this;simpa using t)
 ·have:=(key y hy).1.2;rw [hl] at this;exact absurd this (by decide)
 ·have:=(key y hy).2;rw [hl,Bool.or_eq_true] at this;rw [hdn];rcases this with h | h
  ·exact .inl (Uv (p:=Ky) (λ_ h=>ZD5 h) (by have t:(false || isK Ky (dn.lookup y.1))=true:=h;simpa using t))
  ·exact .inr (Uv (p:=Jx) (λ_ h=>ZAw h) h)
 ·have hk':k < caps.length:=(List.getElem?_eq_some_iff.mp hj).1;have:=h4 k (List.mem_range.mpr hk');rw [hj] at this;dsimp only at this;cases e:N0[j]? with
  | none=>rw [e] at this;cases this
  | some x=>
   rw [e] at this;dsimp only at this;rw [Bool.and_eq_true] at this;exact ⟨x,by rw [hN];exact e,of_decide_eq_true this.1,Uv (p:=Jx) (λ_ h=>ZAw h) this.2⟩
section
section
variable {X:Cx} {pins:List (Addr×Obj)} {σ:St} {H:Hp} {s:Shared}
theorem ZG9 {xs:List V} (I:Inv X pins σ H s) (h:H p=some (.lst xs)):∃o,Inv X pins σ (upd H p (.frz o (.lst xs))) s:=by
 obtain ⟨hl,its,n,r,e⟩:=I.hok p _ h;have nt:∀b (u:HO),H b=some u->u≠ .lst xs->b≠p:=λb u q d z=>by subst z;rw [h] at q;exact d (Option.some.inj q).symm
 refine ⟨_,I.un (t':=s.toks) (H':=upd H p (.frz {cls:=.type "list",data:=.seq its.toArray n} (.lst xs))) ⟨λb o q _ _ _=>q,λb o q _ _ _=>⟨o.slots,q⟩,λb o q z _=> ?_,λb o q _=>⟨o,q⟩,λb ys q=> ?_,λb o u q=> ?_,λb ps q=>⟨#[],?_⟩⟩ ?_⟩
 ·rw [Ao (λz'=>by subst z';rw [h] at z;cases z)];exact z
 ·rw [Ao (nt b _ q (by intro z;cases z))];exact q
 ·rw [Ao (nt b _ q (by intro z;cases z))];exact q
 ·rw [Ao (nt b _ q (by intro z;cases z)),Array.append_empty];exact q
 ·intro b u q;by_cases hb:b=p
  ·subst hb;rw [Dt] at q;cases q;exact ⟨e,hl,its,n,r,e⟩
  ·rw [Ao hb] at q;exact (I.hok b u q).stay (λc v _ z=>z) (λc z=>by rw [Ao (nt c _ z (by intro z;cases z))];exact z) λc ys z=>by rw [Ao (nt c _ z (by intro z;cases z))];exact z
noncomputable def Fz (P:Addr->Prop) (H H':Hp):Prop:=∀p,(H' p=H p/\(∀vs,H p=some (.lst vs)->¬P p))∨∃o vs,P p/\H p=some (.lst vs)/\H' p=some (.frz o (.lst vs))
theorem ZCv (I:Inv X pins σ H s) (m:Nat->Addr) (n:Nat):∀k:Nat,∃H',Inv X pins σ H' s/\Fz (λp=>∃i,n<=i/\i < n + k/\p=m i) H H'
 | 0=>⟨H,I,λp=>.inl ⟨rfl,λ_ _ ⟨i,h1,h2,_⟩=>by lia⟩⟩
 | k + 1=>by
  obtain ⟨H',I',F⟩:=ZCv I m n k;have keep:(∀vs,H' (m (n + k))≠some (.lst vs))->Fz (λp=>∃i,n<=i/\i < n + (k + 1)/\p=m i) H H':=λno p=>by
   rcases F p with ⟨e,z⟩ | ⟨o,vs,⟨i,h1,h2,h3⟩,e1,e2⟩
   ·refine .inl ⟨e,λvs e1 ⟨i,h1,h2,h3⟩=> ?_⟩;by_cases hi:i < n + k
    ·exact z vs e1 ⟨i,h1,hi,h3⟩
    ·have:i=n + k:=by lia
     subst this;subst h3;exact no vs (e.trans e1)
   ·exact .inr ⟨o,vs,⟨i,h1,by lia,h3⟩,e1,e2⟩
  cases hH:H' (m (n + k)) with
  | none=>exact ⟨H',I',keep λvs z=>by rw [hH] at z;cases z⟩
  | some u=>
   cases u with
   | lst vs=>
    obtain ⟨o,I2⟩:=ZG9 I' hH;refine ⟨_,I2,λp=> ?_⟩;by_cases hp:p=m (n + k)
    ·subst hp;rcases F (m (n + k)) with ⟨e,z⟩ | ⟨o',vs',_,e1,e2⟩
     ·exact .inr ⟨o,vs,⟨n + k,by lia,by lia,rfl⟩,e.symm.trans hH,Dt⟩
     ·rw [hH] at e2;cases e2
    ·rcases F p with ⟨e,z⟩ | ⟨o',vs',⟨i,h1,h2,h3⟩,e1,e2⟩
     ·refine .inl ⟨by rw [Ao hp];exact e,λvs' e1 ⟨i,h1,h2,h3⟩=> ?_⟩;by_cases hi:i < n + k
      ·exact z vs' e1 ⟨i,h1,hi,h3⟩
      ·have:i=n + k:=by lia
       subst this;exact hp h3
     ·exact .inr ⟨o',vs',⟨i,h1,by lia,h3⟩,e1,by rw [Ao hp];exact e2⟩
   | _=>exact ⟨H',I',keep λvs z=>by rw [hH] at z;cases z⟩
end
noncomputable def I9 (f:D->Option D):List D->Option (List D)
 | []=>some []
 | d::r=>match f d,I9 f r with
  | some d',some r'=>some (d'::r')
  | _,_=>none
noncomputable def Ce (G:DH) (n:Nat):Nat->D->Option D
 | 0,_=>none
 | k + 1,d=>if bel n d=true then some d else match d with
  | .ref i=>match G[i]? with
   | some (.lst xs)=>(I9 (Ce G n k) xs).map .fl
   | _=>none
  | .tup xs=>(I9 (Ce G n k) xs).map .tup
  | .fl xs=>(I9 (Ce G n k) xs).map .fl
  | _=>none
open Classical in
noncomputable def freeze (G:DH) (r:R D):R D:=match r with
 | .ok d G'=>if G'.take G.length=G then (match Ce G' G.length 9 d with
   | some d'=>.ok d' G
   | none=>.ok d G') else .ok d G'
 | r=>r
noncomputable def Ba (t:DE):DE:=λS G=>freeze G (t S G)
structure CutF (b c:Wd) (n:Nat):Prop where
 k:c.K=b.K
 n:c.n=n
 m:c.m=b.m
 tup:∀p xs,b.H p=some (.tup xs)->c.H p=some (.tup xs)
 frz:∀p o u,b.H p=some (.frz o u)->c.H p=some (.frz o u)
theorem CutF.sqT {c:Wd} (x:CutF b c n) {xs:List V} (h:SqT b.K b.H p xs):SqT c.K c.H p xs:=by
 rcases h with (h | ⟨o,h⟩) | h
 ·exact .inl (.inl (x.tup _ _ h))
 ·exact .inl (.inr ⟨o,x.frz _ _ _ h⟩)
 ·exact .inr (by rw [x.k];exact h)
theorem CutF.fzL {c:Wd} (x:CutF b c n) {xs:List V} (h:FzL b.K b.H p xs):FzL c.K c.H p xs:=by
 rcases h with ⟨o,h⟩ | h
 ·exact .inl ⟨o,x.frz _ _ _ h⟩
 ·exact .inr (by rw [x.k];exact h)
mutual
theorem Rep.Hs {c:Wd} (x:CutF b c n):∀{d:D} {v:V},Rep b d v->bel n d=true->Rep c d v
 | .non,_,h,_=>h
 | .bl _,_,h,_=>h
 | .int _,_,h,_=>h
 | .str _,_,h,_=>h
 | .ty _,_,h,_=>h
 | .tup ds,v,h,q=>by obtain ⟨p,vs,e,t,r⟩:=h;simp only [DL.bel] at q;exact ⟨p,vs,e,x.sqT t,Reps.Hs x r q⟩
 | .fl ds,v,h,q=>by obtain ⟨p,vs,e,t,r⟩:=h;simp only [DL.bel] at q;exact ⟨p,vs,e,x.fzL t,Reps.Hs x r q⟩
 | .ref i,v,h,q=>by obtain ⟨l,e⟩:=h;simp only [DL.bel] at q;have q':=of_decide_eq_true q;exact ⟨by rw [x.n];exact q',by rw [x.m];exact e⟩
theorem Reps.Hs {c:Wd} (x:CutF b c n):∀{ds:List D} {vs:List V},Reps b ds vs->bels n ds=true->Reps c ds vs
 | [],_,h,_=>h
 | d::ds,vs,h,q=>by obtain ⟨v,r,e,h1,h2⟩:=h;simp only [DL.bels,Bool.and_eq_true] at q;exact ⟨v,r,e,Rep.Hs x h1 q.1,Reps.Hs x h2 q.2⟩
end
theorem R5 {c:Wd} {f:D->Option D} (hf:∀d d' v,f d=some d'->Rep b d v->Rep c d' v):∀{ds ds':List D} {vs:List V},I9 f ds=some ds'->Reps b ds vs->Reps c ds' vs
 | [],ds',vs,e,h=>by cases e;exact h
 | d::ds,ds',vs,e,h=>by
  obtain ⟨v,r,rfl,h1,h2⟩:=h;unfold I9 at e;split at e
  ·rename_i d' r' e1 e2;cases e;exact ⟨v,r,rfl,hf _ _ _ e1 h1,R5 hf e2 h2⟩
  ·cases e
theorem ZB9 {c:Wd} (s:Sim b G') (x:CutF b c n) (hz:∀i,n<=i->i < b.n->∀vs,b.H (b.m i)=some (.lst vs)->∃o,c.H (b.m i)=some (.frz o (.lst vs))):∀(k:Nat) (d d':D) (v:V),Ce G' n k d=some d'->Rep b d v->Rep c d' v
 | 0,d,d',v,e,h=>by cases e
 | k + 1,d,d',v,e,h=>by
  have ih:=ZB9 s x hz k;unfold Ce at e;split at e
  ·rename_i hb;cases e;exact h.Hs x hb
  ·rename_i hb;cases d with
   | ref i=>
    dsimp only at e;split at e
    ·rename_i xs hx;rw [Option.map_eq_some_iff] at e;obtain ⟨ys,e1,rfl⟩:=e;obtain ⟨vs,e2,r2⟩:=s.obj i _ hx;obtain ⟨il,rfl⟩:=h;have hi:n<=i:=by simp only [DL.bel,decide_eq_true_eq] at hb;lia
     obtain ⟨o,e3⟩:=hz i hi il vs e2;exact ⟨_,vs,rfl,.inl ⟨o,e3⟩,R5 ih e1 r2⟩
    ·cases e
   | tup xs=>
    dsimp only at e;rw [Option.map_eq_some_iff] at e;obtain ⟨ys,e1,rfl⟩:=e;obtain ⟨p,vs,rfl,t,r⟩:=h;exact ⟨p,vs,rfl,x.sqT t,R5 ih e1 r⟩
   | fl xs=>
    dsimp only at e;rw [Option.map_eq_some_iff] at e;obtain ⟨ys,e1,rfl⟩:=e;obtain ⟨p,vs,rfl,t,r⟩:=h;exact ⟨p,vs,rfl,x.fzL t,R5 ih e1 r⟩
   | _=>cases e
theorem ZCC {pins:List (Addr×Obj)} {sh:Shared} (s:Sim a G) (hG:G'.take G.length=G) (x:Ext a b) (sb:Sim b G') (I:Inv X pins σ b.H sh):
  ∃c:Wd,Inv X pins σ c.H sh/\Ext a c/\Sim c G/\CutF b c a.n/\∀(k:Nat) (d d':D) (v:V),Ce G' G.length k d=some d'->Rep b d v->Rep c d' v:=by
 have hlen:∀i o,G[i]? =some o->G'[i]? =some o:=λi o e=>by have hi:i < G.length:=(List.getElem?_eq_some_iff.mp e).1;rw [<-hG,List.getElem?_take_of_lt hi] at e;exact e
 obtain ⟨H',I',F⟩:=ZCv I b.m a.n (b.n - a.n);have hbn:a.n + (b.n - a.n)=b.n:=by have:=x.n;lia
 rw [hbn] at F;have ct:∀p (u:HO),(∀vs,u≠ .lst vs)->b.H p=some u->H' p=some u:=λp u nu e=>by
  rcases F p with ⟨e1,_⟩ | ⟨o,vs,_,e1,_⟩
  ·exact e1.trans e
  ·rw [e] at e1;exact absurd (Option.some.inj e1) (nu vs)
 have tabs:∀p,TabOk b.H p->TabOk H' p:=λp t=>t.mono (λp ps e=>ct p _ (by intro _ z;cases z) e) λp o u e=>ct p _ (by intro _ z;cases z) e
 have cc:CutF b ⟨b.K,a.n,b.m,H'⟩ a.n:=⟨rfl,rfl,rfl,λp xs e=>ct p _ (by intro _ z;cases z) e,λp o u e=>ct p _ (by intro _ z;cases z) e⟩;have old:∀i,i < a.n->H' (b.m i)=b.H (b.m i):=λi hi=>by
  rcases F (b.m i) with ⟨e1,_⟩ | ⟨o,vs,⟨j,h1,h2,h3⟩,e1,e2⟩
  ·exact e1
  ·have:=sb.inj i j (Nat.lt_of_lt_of_le hi x.n) h2 h3;lia
 refine ⟨⟨b.K,a.n,b.m,H'⟩,I',⟨x.k,Nat.le_refl _,x.m,λp xs e=>cc.tup p xs (x.tup p xs e),λp o u e=>cc.frz p o u (x.frz p o u e),λp t=>tabs p (x.tab p t)⟩,⟨s.len,λi j hi hj=>sb.inj i j (Nat.lt_of_lt_of_le hi x.n) (Nat.lt_of_lt_of_le hj x.n),λi o e=> ?_,λi hi=> ?_⟩,cc,λk d d' v hd rb=> ?_⟩
 ·show ORep ⟨b.K,a.n,b.m,H'⟩ o (H' (b.m i));rw [old i (s.lt e)];have q:=sb.obj i o (hlen i o e);have lb:=(s.obj i o e).Lh;cases o with
  | lst ds=>obtain ⟨vs,e1,r1⟩:=q;exact ⟨vs,e1,r1.Hs cc lb⟩
  | dct kvs=>obtain ⟨us,e1,k1,r1⟩:=q;exact ⟨us,e1,k1,r1.Hs cc lb⟩
  | ins c fs=>obtain ⟨C,dx,us,n1,e1,k1,r1⟩:=q;exact ⟨C,dx,us,n1,e1,k1,r1.Hs cc lb⟩
  | tab C m=>obtain ⟨c1,P1,e1,t1⟩:=q;exact ⟨c1,P1,e1,tabs _ t1⟩
  | gone=>trivial
 ·show H' (b.m i)≠none;rw [old i hi];exact sb.tr i (Nat.lt_of_lt_of_le hi x.n)
 ·rw [s.len] at hd;refine ZB9 sb cc (λi h1 h2 vs e=> ?_) k d d' v hd rb;rcases F (b.m i) with ⟨e1,z⟩ | ⟨o,vs',_,e1,e2⟩
  ·exact absurd ⟨i,h1,h2,rfl⟩ (z vs e)
  ·rw [e] at e1;cases e1;exact ⟨o,e2⟩
theorem ZFL (s:Sim a G) (h:out E a (freeze G r) Q):
  out E a r λv H=>∀(pins:List (Addr×Obj)) (σ:St) (sh:Shared),Inv X pins σ H sh->∃H',Inv X pins σ H' sh/\Q v H':=by
 cases r with
 | err e G'=>exact h
 | bad=>exact h
 | ok d G'=>
  intro b v x sb rb pins σ sh I;unfold freeze at h;dsimp only at h;split at h
  ·rename_i hG;split at h
   ·rename_i d' hd;obtain ⟨c,Ic,xc,sc,cc,hr⟩:=ZCC s hG x sb I;exact ⟨c.H,Ic,h c v xc sc (hr _ _ _ _ hd rb)⟩
   ·exact ⟨_,I,h b v x sb rb⟩
  ·exact ⟨_,I,h b v x sb rb⟩
theorem Bq (ha:QE X E e t):QE X E e (Ba t):=λpins s σ H Q I h=>by
 obtain ⟨a,S,G,hk,rfl,sm,r,h⟩:=h;refine thn (ha pins s σ a.H _ I ⟨a,S,G,hk,rfl,sm,r,ZFL (X:=X) sm h⟩) λu s' ⟨v,H',I',rv,q⟩=> ?_
 obtain ⟨H2,I2,q2⟩:=q pins σ s' I';exact ⟨v,H2,I2,rv,q2⟩
theorem Wv {st:Stmt} (ha:QS X E st (sAs t (gV i))):QS X E st (sAs (Ba t) (gV i)):=λpins s σ H W I h=>by
 obtain ⟨a,S,G,hk,rfl,sm,r,h⟩:=h;have h2:Bp E a (sAs t (gV i) S G) {W with nx:=λσ H=>∀(pins:List (Addr×Obj)) (sh:Shared),Inv X pins σ H sh->∃H',Inv X pins σ H' sh/\W.nx σ H'}:=by
  unfold sAs Ba at h;unfold sAs;cases ht:t S G with
  | err e G'=>rw [ht] at h;exact h
  | bad=>rw [ht] at h;exact h
  | ok d G'=>
   rw [ht] at h;intro b σ' x sb rb pins sh I;unfold freeze at h;dsimp only at h;split at h
   ·rename_i hG;split at h
    ·rename_i d' hd;obtain ⟨c,Ic,xc,sc,cc,hr⟩:=ZCC sm hG x sb I;refine ⟨c.H,Ic,h c σ' xc sc ⟨?_,λj e he=> ?_⟩⟩
     ·rw [List.length_set,<-rb.len,List.length_set]
     ·rw [List.getElem?_set] at he;by_cases hij:i=j
      ·subst hij;rw [if_pos rfl] at he;by_cases hl:i < S.length
       ·rw [if_pos hl] at he;have e1:d'=e:=by simpa using he
        subst e1;obtain ⟨v,e2,rv⟩:=rb.get i d (by rw [List.getElem?_set,if_pos rfl,if_pos hl]);exact ⟨v,e2,hr _ _ _ _ hd rv⟩
       ·rw [if_neg hl] at he;cases he
      ·rw [if_neg hij] at he;obtain ⟨v,e2,rv⟩:=rb.get j e (by rw [List.getElem?_set,if_neg hij];exact he);obtain ⟨v',_,rv'⟩:=r.get j e he;exact ⟨v,e2,rv.Hs cc rv'.bel⟩
    ·exact ⟨_,I,h b σ' x sb rb⟩
   ·exact ⟨_,I,h b σ' x sb rb⟩
 refine thn (ha pins s σ a.H _ I ⟨a,S,G,hk,rfl,sm,r,h2⟩) λf s' hf=> ?_
 cases f with
 | next=>
  obtain ⟨σ',H',I',q⟩:=hf;obtain ⟨H2,I2,q2⟩:=q pins s' I';exact ⟨σ',H2,I2,q2⟩
 | brk=>exact hf
 | cont=>exact hf
 | ret u=>exact hf
end
section
variable {S:DSt} {G:DH}
@[simp] theorem ev_V:dV i S G=(match S[i]? with | some (some d)=>.ok d G | _=>.bad):=id rfl
@[simp] theorem ev_C:dC d S G=.ok d G:=id rfl
@[simp] theorem ev_Op {a b:DE}:dOp f a b S G=(a S G).bind λx G1=>(b S G1).bind λy G2=>f x y G2:=id rfl
@[simp] theorem ev_Un {f:D->DH->R D} {a:DE}:dUn f a S G=(a S G).bind f:=id rfl
@[simp] theorem ev_Nil:Ai S G=.ok [] G:=id rfl
@[simp] theorem ZM4 {a:DE} {r:DA}:Ac a r S G=(a S G).bind λx G1=>(r S G1).bind λxs G2=>.ok (x::xs) G2:=id rfl
@[simp] theorem ev_Fn {f:List D->DH->R D} {t:DA}:dFn f t S G=(t S G).bind f:=id rfl
@[simp] theorem Vv:Cr t S G=tidy G (t S G):=id rfl
@[simp] theorem ev_Frz:Ba t S G=freeze G (t S G):=id rfl
@[simp] theorem ev_asB {k:Bool}:asB (.bl k) G=.ok k G:=id rfl
@[simp] theorem ev_Tst:Bb t S G=(t S G).bind asB:=id rfl
@[simp] theorem ev_And {t u:DB}:V3 t u S G=(t S G).bind λk G1=>if k=true then u S G1 else .ok false G1:=id rfl
@[simp] theorem ev_Or {t u:DB}:dOr t u S G=(t S G).bind λk G1=>if k=true then .ok true G1 else u S G1:=id rfl
@[simp] theorem ev_Not {t:DB}:Ii t S G=(t S G).bind λk G1=>.ok (!k) G1:=id rfl
@[simp] theorem ZNB {u:DE}:Vj t u S G=(t S G).bind λx G1=>(asB x G1).bind λk G2=>if k=true then u S G2 else .ok (.bl false) G2:=id rfl
@[simp] theorem ZM2:Y9 t S G=(t S G).bind λx G1=>(asB x G1).bind λk G2=>.ok (.bl (!k)) G2:=id rfl
@[simp] theorem ev_If {u:DE}:dIf c t u S G=(c S G).bind λk G1=>if k=true then t S G1 else u S G1:=id rfl
@[simp] theorem ZMp {g:D->D->DH->R D} {a b c:DE}:Ss f g a b c S G=(a S G).bind λx G1=>(b S G1).bind λy G2=>(f x y G2).bind λz G3=>(asB z G3).bind λk G4=>
 if k=true then (c S G4).bind λw G5=>g y w G5 else .ok (.bl false) G4:=id rfl
@[simp] theorem ev_sNx:sNx S G=.nx S G:=id rfl
noncomputable def SR.then (r:SR) (u:DS):SR:=match r with
 | .nx S1 G1=>u S1 G1
 | r=>r
@[simp] theorem ZA8 {t u:DS}:Ak t u S G=(t S G).then u:=id rfl
@[simp] theorem ZBv {u:DS}:(SR.nx S G).then u=u S G:=id rfl
@[simp] theorem ZMi {u:DS} :(SR.rt d G).then u=.rt d G:=id rfl
@[simp] theorem ev_sEx:sEx t S G=(t S G).toS λ_ G1=>.nx S G1:=id rfl
@[simp] theorem ev_sRt:sRt t S G=(t S G).toS λd G1=>.rt d G1:=id rfl
@[simp] theorem ev_sIf {t u:DS}:sIf c t u S G=(c S G).toS λk G1=>if k=true then t S G1 else u S G1:=id rfl
@[simp] theorem ev_sAs:sAs t g S G=(t S G).toS λd G1=>(g d S G1).toS λS2 G2=>.nx S2 G2:=id rfl
@[simp] theorem ZHJ {it:DI} {b:DS}:Ds it g b S G=(it S G).toS λJ G1=>(match J with
 | .pure xs=>Bu g b xs S G1
 | .mt i=>match G1[i]? with
  | some (.lst xs)=>forM i g b xs.length 0 S G1
  | _=>.bad
 | .fn n f=>Fx f g b n 0 S G1):=id rfl
@[simp] theorem ZKy:Eg t S G=(t S G).bind Em:=id rfl
@[simp] theorem ZMf {f:List D->DH->R ItD} {t:DA}:Do f t S G=(t S G).bind f:=id rfl
@[simp] theorem Fj:gV i d S G=.ok (S.set i (some d)) G:=id rfl
@[simp] theorem ZM3:Gz [] S G=.ok S G:=id rfl
@[simp] theorem ZMz {t:DG} {u:DGs} {r:List D}:Bx t u (d::r) S G=(t d S G).bind λS1 G1=>u r S1 G1:=id rfl
@[simp] theorem ZM5 {t:DGs} :Ff n t (.tup ds) S G=if ds.length=n then t ds S G else .bad:=id rfl
@[simp] theorem ev_gIx {o i:DE} {v:D}:gIx o i v S G=(o S G).bind λo G1=>(i S G1).bind λi G2=>(Gg o i v G2).bind λ_ G3=>.ok S G3:=id rfl
@[simp] theorem ev_MtL {f:D->List D->DH->R D} {o:DE} {t:DA}:Jq f o t S G=(o S G).bind λx G1=>if isL x G1=true then (t S G1).bind λxs G2=>f x xs G2 else .bad:=id rfl
@[simp] theorem ZM7 {it:DI} {caps:List Nat} :Eo it nt caps g c te S G=(it S G).bind λJ G1=>(match J with
 | .pure xs=>Df g c te (Bh nt caps S) xs G1
 | .mt i=>match G1[i]? with
  | some (.lst xs)=>Dy i g c te (Bh nt caps S) xs.length 0 G1
  | _=>.bad
 | .fn n f=>De f g c te (Bh nt caps S) n 0 G1).bind Ar:=id rfl
@[simp] theorem ZMt:Cd S G=.ok true G:=id rfl
@[simp] theorem Ef {k:DSt->DH->SR}:aft (.nx S G) k=k S G:=id rfl
theorem Jf {b:DS}:Bu g b [] S G=.nx S G:=id rfl
theorem H8 {b:DS} {x:D} :Bu g b (x::xs) S G=(g x S G).toS λS1 G1=>aft (b S1 G1) (Bu g b xs):=id rfl
theorem ZHT:Df g c te S [] G=.ok [] G:=id rfl
theorem Zc {x:D} :Df g c te S (x::xs) G=(g x S G).bind λS1 G1=>(c S1 G1).bind λk G2=>
   if k=true then (te S1 G2).bind λd G3=>(Df g c te S xs G3).bind λds G4=>.ok (d::ds) G4 else Df g c te S xs G2:=id rfl
noncomputable def SR.ret (r:SR):R D:=match r with
 | .nx _ G'=>.ok .non G'
 | .rt d G'=>.ok d G'
 | .err x G'=>.err x G'
 | _=>.bad
@[simp] theorem ret_nx:(SR.nx S G).ret=.ok .non G:=id rfl
@[simp] theorem ret_rt:(SR.rt d G).ret=.ok d G:=id rfl
theorem Ck {np nl:Nat} {b:DS} :Bt np nl b ds G=if ds.length=np then tidy G (b (ds.map some++List.replicate nl none) G).ret else .bad:=id rfl
end
section
variable {n:Nat} {G:DH}
@[simp] theorem ZMv:bel n .non=true:=by simp [DL.bel]
@[simp] theorem bel_bl {b:Bool}:bel n (.bl b)=true:=by simp [DL.bel]
@[simp] theorem ZLZ {b:Int}:bel n (.int b)=true:=by simp [DL.bel]
@[simp] theorem ZMl {b:List D}:bel n (.tup b)=bels n b:=by simp [DL.bel]
@[simp] theorem bel_fl {b:List D}:bel n (.fl b)=bels n b:=by simp [DL.bel]
@[simp] theorem ZMn {b:Nat}:bel n (.ref b)=decide (b < n):=by simp [DL.bel]
@[simp] theorem ZNL:bels n []=true:=by simp [DL.bels]
@[simp] theorem ZFu:bels n (d::ds)=(bel n d && bels n ds):=by simp [DL.bels]
theorem ZLR:bels n ds=true↔∀d∈ds,bel n d=true:=by
 induction ds with
 | nil=>simp
 | cons d ds ih=>simp [ih]
@[simp] theorem ZMu {es:List D}:bels n (ds++es)=(bels n ds && bels n es):=by
 induction ds with
 | nil=>simp
 | cons d ds ih=>simp [ih,Bool.and_assoc]
theorem Kc {f:α->D} {xs:List α} (h:∀x∈xs,bel n (f x)=true):bels n (xs.map f)=true:=by rw [ZLR];intro d hd;obtain ⟨x,hx,rfl⟩:=List.mem_map.mp hd;exact h x hx
@[simp] theorem Ci {xs:List Int}:bels n (xs.map D.int)=true:=Kc λ_ _=>ZLZ
theorem Dr (h:bel G.length d=true):tidy G (.ok d G)=.ok d G:=by unfold tidy;simp [h]
theorem ZFv (L:DH) (hk:L[k]? =some (.lst ds)) (h:bels G.length ds=true):tidy G (.ok (.ref (G.length + k)) (G++L))=.ok (.ref G.length) (G++ [.lst ds]):=by
 unfold tidy;have e:(G++L)[G.length + k]? =some (.lst ds):=by rw [List.getElem?_append_right (by lia)];simpa using hk
 simp [e,Lh,h]
theorem Hz {L:DH} (h:bels G.length ds=true):tidy G (.ok (.ref G.length) (G++ .lst ds::L))=.ok (.ref G.length) (G++ [.lst ds]):=ZFv (.lst ds::L) (k:=0) rfl h
theorem ZA9 (h:bel G.length d=true):freeze G (.ok d G)=.ok d G:=by unfold freeze;simp [h,Ce]
theorem O5:∀{ds:List D},bels n ds=true->I9 (Ce G' n (k + 1)) ds=some ds
 | [],_=>rfl
 | d::ds,h=>by simp only [ZFu,Bool.and_eq_true] at h;unfold I9;rw [O5 h.2];simp [Ce,h.1]
theorem ZCg (L:DH) (hk:L[k]? =some (.lst ds)) (h:bels G.length ds=true):freeze G (.ok (.ref (G.length + k)) (G++L))=.ok (.fl ds) G:=by
 unfold freeze;have e:(G++L)[G.length + k]? =some (.lst ds):=by rw [List.getElem?_append_right (by lia)];simpa using hk
 have m:Ce (G++L) G.length 9 (.ref (G.length + k))=some (.fl ds):=by unfold Ce;simp [e,O5 h]
 simp [m]
theorem Cg {L:DH} (h:bels G.length ds=true):freeze G (.ok (.ref G.length) (G++ .lst ds::L))=.ok (.fl ds) G:=ZCg (.lst ds::L) (k:=0) rfl h
theorem Ov (L:DH) (k:Nat):(G++L)[G.length + k]? =L[k]? :=by rw [List.getElem?_append_right (by lia)];simp
theorem Td (L:DH):(G++L)[G.length]? =L[0]? :=Ov L 0
theorem ZJJ (L:DH) (k:Nat) (o:DO):(G++L).set (G.length + k) o=G++L.set k o:=by rw [List.set_append_right _ _ (by lia)];simp
theorem V6 (L:DH) (o:DO):(G++L).set G.length o=G++L.set 0 o:=ZJJ L 0 o
theorem Lw {lo:Int}:Bf lo 0= []:=id rfl
theorem Jw {lo:Int} :Bf lo (n + 1)=.int lo::Bf (lo + 1) n:=by
 unfold Bf;rw [List.range_succ_eq_map,List.map_cons,List.map_map]
 congr 1
 ·simp
 ·apply List.map_congr_left;intro k _;simp only [Function.comp]
  congr 1
  lia
end
section
variable {G:DH} {i j:Int} {x y:Str} {k l:Bool}
@[simp] theorem ev_add:Ay (.int i) (.int j) G=.ok (.int (i + j)) G:=id rfl
@[simp] theorem ev_ip:Qs (.int i) (.int j) G=.ok (.int (i + j)) G:=id rfl
@[simp] theorem ev_sub:Dg (.int i) (.int j) G=.ok (.int (i - j)) G:=id rfl
theorem Kf (h1: -(2 ^ 64) < i) (h2:i < 2 ^ 64):Bo (.int i) (.int j) G=.ok (.int (i * j)) G:=if_pos (.inl ⟨h1,h2⟩)
theorem Lp (h1: -(2 ^ 64) < j) (h2:j < 2 ^ 64):Bo (.int i) (.int j) G=.ok (.int (i * j)) G:=if_pos (.inr ⟨h1,h2⟩)
@[simp] theorem ZMj (h:n < 18446744073709551616):Bo (.int (no_index (OfNat.ofNat n))) (.int j) G=.ok (.int (OfNat.ofNat n * j)) G:=
 Kf (by have:(0:Int)<=(OfNat.ofNat n:Int):=Int.natCast_nonneg n;lia) (by have:(OfNat.ofNat n:Int) < 18446744073709551616:=Int.ofNat_lt.mpr h;lia)
@[simp] theorem ZMy (h:n < 18446744073709551616):Bo (.int i) (.int (no_index (OfNat.ofNat n))) G=.ok (.int (i * OfNat.ofNat n)) G:=
 Lp (by have:(0:Int)<=(OfNat.ofNat n:Int):=Int.natCast_nonneg n;lia) (by have:(OfNat.ofNat n:Int) < 18446744073709551616:=Int.ofNat_lt.mpr h;lia)
theorem ZGP (h:0 < n) (h2:n.log2 < 9000):Es (.int i) (.int (n:Int)) G=.ok (.int (i / n)) G:=if_pos ⟨by lia,h2⟩
theorem log2_small (h:n < 10 ^ 100):n.log2 < 9000:=by
 by_cases hn:n=0
 ·subst hn;decide
 ·rw [Nat.log2_lt hn];exact Nat.lt_trans h (by decide)
@[simp] theorem ZNC [NeZero n] (h:n < 10 ^ 100):Es (.int i) (.int (no_index (OfNat.ofNat n))) G=.ok (.int (i / OfNat.ofNat n)) G:=
 if_pos ⟨Int.ofNat_lt.mpr (Nat.pos_of_ne_zero (NeZero.ne n)),log2_small h⟩
@[simp] theorem ev_mod:Dv (.int i) (.int j) G=if 0 < j then .ok (.int (i % j)) G else .bad:=id rfl
@[simp] theorem ev_pow:J7 (.int i) (.int j) G=if 0<=j/\j<=1000000/\i.natAbs < 18446744073709551616 then .ok (.int (i ^ j.toNat)) G else .bad:=id rfl
@[simp] theorem ev_lt:Jg (.int i) (.int j) G=.ok (.bl (decide (i < j))) G:=id rfl
@[simp] theorem ev_le:Z9 (.int i) (.int j) G=.ok (.bl (decide (i<=j))) G:=id rfl
@[simp] theorem ev_gt:Jl (.int i) (.int j) G=.ok (.bl (decide (j < i))) G:=id rfl
@[simp] theorem ev_eq:Fb (.int i) (.int j) G=.ok (.bl (decide (i=j))) G:=id rfl
@[simp] theorem ev_ne:Iz (.int i) (.int j) G=.ok (.bl (!decide (i=j))) G:=id rfl
@[simp] theorem ev_neg:Ja (.int i) G=.ok (.int (-i)) G:=id rfl
@[simp] theorem ev_is:Jd d .non G=.ok (.bl (Ew d)) G:=by cases d <;> exact id rfl
@[simp] theorem ZNG:Px d .non G=.ok (.bl (!Ew d)) G:=by cases d <;> exact id rfl
@[simp] theorem ZMo:Ew .non=true:=id rfl
@[simp] theorem ZM6:Ew (.int i)=false:=id rfl
@[simp] theorem ev_max:Uw [.int i,.int j] G=.ok (.int (max i j)) G:=by
 show R.ok (D.int (if j > i then j else i)) G=_
 congr 2
 split <;> lia
@[simp] theorem ev_min:Lr [.int i,.int j] G=.ok (.int (min i j)) G:=by
 show R.ok (D.int (if j < i then j else i)) G=_
 congr 2
 split <;> lia
@[simp] theorem ZMr:Q5 [.bl k] G=.ok (.int (if k then 1 else 0)) G:=id rfl
@[simp] theorem ZMq:Br (.fl ds) G=some ds:=id rfl
@[simp] theorem ZAt:Br (.ref n) G=(match G[n]? with | some (.lst xs)=>some xs | _=>none):=id rfl
@[simp] theorem ZMx:Dl [.tup ds] G=.ok (.int ds.length) G:=id rfl
@[simp] theorem ZMh:Dl [.fl ds] G=.ok (.int ds.length) G:=id rfl
@[simp] theorem Tv:Dl [.ref n] G=(match G[n]? with | some (.lst xs)=>.ok (.int xs.length) G | _=>.bad):=by
 unfold Dl;simp only [ZAt];cases G[n]? with
 | none=>rfl
 | some o=>cases o <;> rfl
@[simp] theorem ev_ixT:An (.tup ds) (.int i) G=(match atI ds i with | some v=>.ok v G | none=>.bad):=id rfl
@[simp] theorem ev_ixF:An (.fl ds) (.int i) G=(match atI ds i with | some v=>.ok v G | none=>.bad):=id rfl
@[simp] theorem Tn:An (.ref n) (.int i) G=(match G[n]? with | some (.lst xs)=>(match atI xs i with | some v=>.ok v G | none=>.bad) | _=>.bad):=by
 unfold An;simp only [ZAt];cases G[n]? with
 | none=>rfl
 | some o=>cases o <;> rfl
theorem Mx {k:Nat} (h:k < n):ixN n (k:Int)=some k:=by unfold ixN;rw [if_pos (by lia),if_pos (by lia)];simp
theorem ZKv {xs:List α} {k:Nat} {d:α} (h:xs[k]? =some d):atI xs (k:Int)=some d:=by unfold atI;rw [Mx (List.getElem?_eq_some_iff.mp h).1];exact h
theorem Fe {xs:List α} {j:Int} {k:Nat} {d:α} (e:j=k) (h:xs[k]? =some d):atI xs j=some d:=by subst e;exact ZKv h
@[simp] theorem atI_0 {a:α} {xs:List α}:atI (a::xs) 0=some a:=Fe (k:=0) rfl rfl
@[simp] theorem atI_1 {a b:α} {xs:List α}:atI (a::b::xs) 1=some b:=Fe (k:=1) rfl rfl
@[simp] theorem atI_2 {a b c:α} {xs:List α}:atI (a::b::c::xs) 2=some c:=Fe (k:=2) rfl rfl
@[simp] theorem atI_3 {a b c d:α} {xs:List α}:atI (a::b::c::d::xs) 3=some d:=Fe (k:=3) rfl rfl
@[simp] theorem ZMg:Ho ds G=if ds.length<=1000000 then .ok (.tup ds) G else .bad:=id rfl
@[simp] theorem ZM8:Ar ds G=if ds.length<=1000000 then .ok (.ref G.length) (G++ [.lst ds]) else .bad:=id rfl
@[simp] theorem ev_itF:Em (.fl ds) G=.ok (.pure ds) G:=id rfl
@[simp] theorem ZMe:rng1 [.int j] G=if inR j then .ok (.pure (Bf 0 j.toNat)) G else .bad:=id rfl
@[simp] theorem ZM0:isL (.ref n) G=(match G[n]? with | some (.lst _)=>true | _=>false):=id rfl
@[simp] theorem ZA3:Fp (.ref n) [d] G=(match G[n]? with | some (.lst xs)=>if xs.length < 1000000 then .ok .non (G.set n (.lst (xs++ [d]))) else .bad | _=>.bad):=id rfl
@[simp] theorem M4:Gg (.ref n) (.int i) d G=(match G[n]? with | some (.lst xs)=>(match ixN xs.length i with | some j=>.ok .non (G.set n (.lst (xs.set j d))) | none=>.bad) | _=>.bad):=id rfl
@[simp] theorem ZFl {ks:List Bool}:Mv [.fl (ks.map D.bl)] G=.ok (.bl (ks.all id)) G:=by simp [Mv]
@[simp] theorem Ys {ks:List Int}:Gw [.fl (ks.map D.int)] G=.ok (.int ks.sum) G:=by simp [Gw]
@[simp] theorem ZMm:Et [d,.ty "int"] G=(match tyD G d with | some .int=>.ok (.bl true) G | some .bl=>.ok (.bl true) G | some _=>.ok (.bl false) G | none=>.bad):=by
 unfold Et;dsimp only;cases tyD G d with
 | none=>rfl
 | some t=>cases t <;> rfl
@[simp] theorem ZNF:Et [d,.ty "bool"] G=(match tyD G d with | some .bl=>.ok (.bl true) G | some _=>.ok (.bl false) G | none=>.bad):=by
 unfold Et;dsimp only;cases tyD G d with
 | none=>rfl
 | some t=>cases t <;> rfl
@[simp] theorem ZM9:Et [d,.ty "tuple"] G=(match tyD G d with | some .tup=>.ok (.bl true) G | some _=>.ok (.bl false) G | none=>.bad):=by
 unfold Et;dsimp only;cases tyD G d with
 | none=>rfl
 | some t=>cases t <;> rfl
@[simp] theorem ZMw:Et [d,.ty "list"] G=(match tyD G d with | some .lst=>.ok (.bl true) G | some _=>.ok (.bl false) G | none=>.bad):=by
 unfold Et;dsimp only;cases tyD G d with
 | none=>rfl
 | some t=>cases t <;> rfl
end
section
variable {c:Prop} [Decidable c]
@[simp] theorem ite_ok {a b:α} :(if c then R.ok a G else R.ok b G)=R.ok (if c then a else b) G:=by split <;> rfl
end
section
variable {X:Cx} {E:XK}
end
section
variable {S:DSt} {G:DH} {n:Nat} {kvs:List (Key×D)}
end
noncomputable def cutD {α:Type} (xs:List α) (lo hi:Option Int):List α:=(xs.drop (HT.sIx xs.length 0 lo)).take (HT.sIx xs.length xs.length hi - HT.sIx xs.length 0 lo)
noncomputable def Oj (z:Str) (lo hi:Option Int):Str:=⟨(cutD z.cps.toList lo hi).toArray⟩
theorem ZIc (xs:List α) (lo hi:Option Int):(cutD xs lo hi).length<=xs.length:=by unfold cutD;rw [List.length_take,List.length_drop];lia
noncomputable def K7 (t:Option DE) (S:DSt) (G:DH):R (Option Int):=match t with
 | none=>.ok none G
 | some t=>(t S G).bind λd G1=>match d with
  | .int i=>.ok (some i) G1
  | _=>.bad
noncomputable def La (d:D) (lo hi:Option Int) (G:DH):R D:=match d with
 | .str z=>if z.length<=1000000 then .ok (.str (Oj z lo hi)) G else .bad
 | .tup xs=>.ok (.tup (cutD xs lo hi)) G
 | d=>match Ga d G with
  | some xs=>.ok (.ref G.length) (G++ [.lst (cutD xs lo hi)])
  | none=>.bad
noncomputable def dSl (e:DE) (lo hi:Option DE):DE:=λS G=>(e S G).bind λd G1=>(K7 lo S G1).bind λl G2=>(K7 hi S G2).bind λh G3=>La d l h G3
theorem Jo (n:Nat) (v:Int):((HT.sIx n n (some v):Nat):Int)=max 0 (min (if v < 0 then v + (n:Int) else v) n)/\((HT.sIx n 0 (some v):Nat):Int)=max 0 (min (if v < 0 then v + (n:Int) else v) n):=by
 unfold HT.sIx;by_cases hv:v < 0
 ·simp only [if_pos hv];lia
 ·simp only [if_neg hv];lia
theorem ZHu (xs:Array Nat) (i k:Nat):(List.range k).filterMap (λm=>xs[i + m]?)=(xs.toList.drop i).take k:=by
 induction k generalizing i with
 | zero=>simp
 | succ k ih=>
  rw [List.range_succ_eq_map,List.filterMap_cons];have e:(List.map Nat.succ (List.range k)).filterMap (λm=>xs[i + m]?)=(List.range k).filterMap (λm=>xs[i + 1 + m]?):=by
   rw [List.filterMap_map]
   congr 1
   funext m;simp only [Function.comp]
   congr 1
   lia
  rw [e,ih (i + 1)];by_cases hi:i < xs.size
  ·have h1:xs[i + 0]? =some xs[i]:=by simp [hi]
   rw [h1];have h2:xs.toList.drop i=xs[i]::xs.toList.drop (i + 1):=by rw [List.drop_eq_getElem_cons (by simpa using hi)];simp
   rw [h2];simp
  ·have h1:xs[i + 0]? =none:=by simp;lia
   rw [h1];simp only;rw [List.drop_of_length_le (by simp;lia),List.drop_of_length_le (by simp;lia)];simp
theorem ZIH (x:Str) (lo hi:Option Int):Txt.slice x lo hi=Oj x lo hi:=by
 have hlen:x.length=x.cps.toList.length:=by simp [Str.length]
 have key:(Builtin.Str.strSliceIndices lo hi 1 x.length).filterMap (x.cps[·]?)=cutD x.cps.toList lo hi:=by
  have e1:∀(v:Option Int),(match v with | none=>(0:Int) | some i=>max 0 (min (if i < 0 then i + (x.length:Int) else i) x.length))=((HT.sIx x.length 0 v:Nat):Int):=λv=>by
   cases v with
   | none=>rfl
   | some i=>exact (Jo x.length i).2.symm
  have e2:∀(v:Option Int),(match v with | none=>(x.length:Int) | some i=>max 0 (min (if i < 0 then i + (x.length:Int) else i) x.length))=((HT.sIx x.length x.length v:Nat):Int):=λv=>by
   cases v with
   | none=>rfl
   | some i=>exact (Jo x.length i).1.symm
  have e3:Builtin.Str.strSliceIndices lo hi 1 x.length=sliceRange ((HT.sIx x.length 0 lo:Nat):Int) ((HT.sIx x.length x.length hi:Nat):Int) 1:=by
   rw [<-e1 lo,<-e2 hi];unfold Builtin.Str.strSliceIndices
   cases lo <;> cases hi <;> simp
  rw [e3];unfold sliceRange cutD;rw [List.filterMap_map,<-hlen];generalize HT.sIx x.length 0 lo=i;generalize HT.sIx x.length x.length hi=j;have e4:((λa=>x.cps[a]?) ∘ λ(k:Nat)=>((i:Int) + 1 * (k:Int)).toNat)=λk=>x.cps[i + k]? :=by
   funext k;simp only [Function.comp]
   congr 1
   lia
  have e5:(if (1:Int) > 0 then if (i:Int) < (j:Int) then ((j:Int) - i + 1 - 1) / 1 else 0 else if (i:Int) > (j:Int) then ((i:Int) - j - 1 - 1) / -1 else 0).toNat=j - i:=by
   rw [if_pos (by lia)];split
   ·rw [Int.ediv_one];lia
   ·lia
  rw [e4,e5];exact ZHu x.cps i (j - i)
 unfold Txt.slice Oj;split
 ·rename_i h;have h':(Builtin.Str.strSliceIndices lo hi 1 x.length).length=x.length:=by simpa using h
  have hsz:(cutD x.cps.toList lo hi).length=x.cps.toList.length∨(cutD x.cps.toList lo hi).length < x.cps.toList.length:=by have:=ZIc x.cps.toList lo hi;lia
  have hall:(cutD x.cps.toList lo hi).length=x.cps.toList.length:=by
   have e3:(Builtin.Str.strSliceIndices lo hi 1 x.length).length=HT.sIx x.length x.length hi - HT.sIx x.length 0 lo:=by
    have e1:∀(v:Option Int),(match v with | none=>(0:Int) | some i=>max 0 (min (if i < 0 then i + (x.length:Int) else i) x.length))=((HT.sIx x.length 0 v:Nat):Int):=λv=>by
     cases v with
     | none=>rfl
     | some i=>exact (Jo x.length i).2.symm
    have e2:∀(v:Option Int),(match v with | none=>(x.length:Int) | some i=>max 0 (min (if i < 0 then i + (x.length:Int) else i) x.length))=((HT.sIx x.length x.length v:Nat):Int):=λv=>by
     cases v with
     | none=>rfl
     | some i=>exact (Jo x.length i).1.symm
    have e3:Builtin.Str.strSliceIndices lo hi 1 x.length=sliceRange ((HT.sIx x.length 0 lo:Nat):Int) ((HT.sIx x.length x.length hi:Nat):Int) 1:=by
     rw [<-e1 lo,<-e2 hi];unfold Builtin.Str.strSliceIndices
     cases lo <;> cases hi <;> simp
    rw [e3];unfold sliceRange;rw [List.length_map,List.length_range];generalize HT.sIx x.length 0 lo=i;generalize HT.sIx x.length x.length hi=j;rw [if_pos (by lia)];split
    ·rw [Int.ediv_one];lia
    ·lia
   have hj:HT.sIx x.length x.length hi<=x.length:=HT.ZCO _ _ (Nat.le_refl _) hi;unfold cutD;rw [List.length_take,List.length_drop,<-hlen];lia
  have hs:(cutD x.cps.toList lo hi).Sublist x.cps.toList:=(List.take_sublist _ _).trans (List.drop_sublist _ _);rw [hs.eq_of_length hall]
 ·rw [key]
section
variable {X:Cx} {E:XK}
theorem ZIe:SlR X (λx lo hi H Q=>∃z:Str,x=.str z/\z.length<=sizeLine/\Q (.str (Oj z lo hi)) H):=by
 intro pins s σ H x v vl vu lo hi sl Q I rx hs pl pu h;obtain ⟨z,rfl,hz,q⟩:=h;obtain ⟨t,rfl⟩:=rx;refine ⟨"str",_,PySem.F.slot_str_getitem.lookup,typeIs_str _ _ _,?_⟩
 have fin:∀(l u:Option (Int×Tok)),vl=partValue l->vu=partValue u->l.map (·.1)=lo->u.map (·.1)=hi->wpAny (model X.prog X.w) X.A (getItem (.str z t) (.ref sl)) (EP X pins σ Q) X.xe s:=by
  rintro l u rfl rfl rfl rfl
  refine wpAny_getItem_str_slice (l:=l) (u:=u) (st:=none) (show s.heap.IsSlice sl l u none from hs) rfl ?_
  have e:∀Q',(Txt.slice z (l.map (·.1)) (u.map (·.1))).length<=sizeLine/\(∀t' k,Q' (.str (Txt.slice z (l.map (·.1)) (u.map (·.1))) t') {s with toks:=k})->(sliceMade z t l u none).post Q' s:=λQ' hq=>post_val_or_str hq
  refine e _ ⟨Nat.le_trans (Txt.slice_le z _ _) hz,λt' k=> ?_⟩;rw [ZIH];exact ⟨.str _,H,I.tok k,⟨t',rfl⟩,q⟩
 cases pl with
 | none=>cases pu with
  | none=>exact fin none none rfl rfl rfl rfl
  | int j tj=>exact fin none (some (j,tj)) rfl rfl rfl rfl
 | int i ti=>cases pu with
  | none=>exact fin (some (i,ti)) none rfl rfl rfl rfl
  | int j tj=>exact fin (some (i,ti)) (some (j,tj)) rfl rfl rfl rfl
theorem ZI4 {prog:Program} {E:Value->Shared->Prop} {t sl:Addr} {items:Array Value} {vl vu:Value} {lo hi:Option Int} {Q:Value->Shared->Prop} (ht:IsTup s.heap t items) (hs:s.heap.IsSliceOf sl vl vu .none) (pl:IsPart vl lo) (pu:IsPart vu hi)
  (hw:HT.sIx items.size 0 lo=0/\HT.sIx items.size items.size hi=items.size) (h:Q (.ref t) s):wpAny (model prog w) A (getItem (.ref t) (.ref sl)) Q E s:=by
 obtain ⟨os,hos,hcs,hds⟩:=id hs;have hTs:s.TypeIs (.ref sl) "slice":=⟨os,hos,hcs⟩;unfold getItem
 try with_reducible refine wpAny_holding ?_
 first | refine wpAny_bind (wpAny_pure ?_) | skip
 refine wpAny_bind (wpAny_sequenceKey ht.typeIs (by decide) ?_);refine wpAny_bind (wpAny_callSpecial?_slot (name:=Str.ofString "__getitem__") ht.typeIs PyProof.Rows.slot_tuple_getitem
  (wpAny_call_entry PyProof.Rows.slot_tuple_getitem ht.typeIs entry_tuple_getitem ?_ (args_tuple_getitem _ _)))
 show wpAny _ _ (Builtin.Tuple.tupleItemsOf (.ref t) >>=_) _ _ s;refine wpAny_bind (tupleItemsOf_ ht ?_);refine wpAny_bind (wpAny_typeOf hTs ?_);rw [if_pos (by decide)];refine wpAny_bind (HT.ZCc hs pl pu ?_);have hyes:(((HT.sIx items.size 0 lo:Nat):Int) == 0 && (1:Int) == 1 && (HT.sIx items.size items.size hi - HT.sIx items.size 0 lo) == items.size)=true:=by rw [hw.1,hw.2];simp
 show wpAny _ _ (if (((HT.sIx items.size 0 lo:Nat):Int) == 0 && (1:Int) == 1 && (HT.sIx items.size items.size hi - HT.sIx items.size 0 lo) == items.size)=true then _ else _) _ _ s;rw [if_pos hyes];refine wpAny_bind ?_;unfold Builtin.Tuple.tupleIsExact;refine wpAny_bind (wpAny_typeOf ht.typeIs (wpAny_pure ?_));rw [if_pos (by decide)];exact wpAny_bind (wpAny_rule (wpAny_pure ⟨_,rfl,wpAny_pure h⟩))
theorem ZGF:SlR X (λx lo hi H Q=>∃a xs,x=.ref a/\SqT X.K H a xs/\(HT.sIx xs.length 0 lo=0/\HT.sIx xs.length xs.length hi=xs.length)/\Q (.ref a) H):=by
 intro pins s σ H x v vl vu lo hi sl Q I rx hs pl pu h;obtain ⟨a,xs,rfl,hx,hw,q⟩:=h;cases rx;obtain ⟨its,r,ht,hz⟩:=I.tuple hx;have hlen:its.toArray.size=xs.length:=by rw [List.size_toArray];exact r.length.symm
 exact ⟨"tuple",_,PyProof.Rows.slot_tuple_getitem.lookup,ht.typeIs,ZI4 ht hs pl pu (by rw [hlen];exact hw) ⟨.ref a,H,I,rfl,q⟩⟩
noncomputable def Mf (E:XK) (a:Wd) (r:R (Option Int)) (Q:Option Int->Hp->Prop):Prop:=match r with
 | .ok k G=>∀(b:Wd),Ext a b->Sim b G->Q k b.H
 | .err x G=>XOk E a x G
 | .bad=>False
noncomputable def QO (X:Cx) (E:XK) (e:Option Expr) (t:Option DE):Prop:=PO X e (λσ H Q=>∃(a:Wd) (S:DSt) (G:DH),a.K=X.K/\a.H=H/\Sim a G/\RepS a S σ/\Mf E a (K7 t S G) Q)
theorem _root_.L2.PO.mono {e:Option Expr} {t t':TO} (h:PO X e t) (w:∀σ H Q,t' σ H Q->t σ H Q):PO X e t':=λpins s σ H Q I q=>h pins s σ H Q I (w σ H Q q)
theorem Mz:QO X E none none:=ZJo.mono λσ H Q h=>by obtain ⟨a,S,G,hk,rfl,s,r,h⟩:=h;exact h a (Ext.refl a) s
theorem I8 (he:QE X E e t):QO X E (some e) (some t):=(ZE0 he).mono λσ H Q h=>by
 obtain ⟨a,S,G,hk,rfl,s,r,h⟩:=h;refine ⟨a,S,G,hk,rfl,s,r,?_⟩
 have h':Mf E a ((t S G).bind λd G1=>match d with | .int i=>.ok (some i) G1 | _=>.bad) Q:=h
 cases ht:t S G with
 | ok d G1=>
  rw [ht] at h';intro b v x sb rv;cases d with
  | int i=>exact ⟨i,rv,h' b x sb⟩
  | _=>exact h'.elim
 | err x G1=>rw [ht] at h';exact h'
 | bad=>rw [ht] at h';exact h'
theorem Reps.cutD (r:Reps a ds vs) (lo hi:Option Int):Reps a (DL.cutD ds lo hi) (Js vs lo hi):=by unfold DL.cutD Js;rw [r.length];exact (r.drop _).take _
theorem Mf.imp {r:R (Option Int)} {Q Q':Option Int->Hp->Prop} (h:Mf E a r Q) (w:∀v H,Q v H->Q' v H):Mf E a r Q':=by
 cases r with
 | ok d G=>exact λb x s=>w _ _ (h b x s)
 | err e G=>exact h
 | bad=>exact h
theorem ZBR {r:R (Option Int)} {f:Option Int->DH->R D} (h:out E a (r.bind f) Q):
  Mf E a r (λk H=>∃(b:Wd) (G:DH),b.H=H/\Ext a b/\Sim b G/\r=.ok k G/\out E b (f k G) Q):=by
 cases r with
 | ok d G=>exact λb x s=>⟨b,G,rfl,x,s,rfl,out.mono x h⟩
 | err e G=>exact h
 | bad=>exact h
theorem Jp {lo hi:Option Expr} {tl th:Option DE} {p2 pos:Pos} (he:QE X E e te) (hl:QO X E lo tl) (hu:QO X E hi th):QE X E (.Subscript e (.Slice lo hi none p2) pos) (dSl te tl th):=
 (ZD8 (ZEt.or (ZKr.or (ZGF.or ZIe))) he hl hu).mono λσ H Q h=>by
 obtain ⟨a,S,G,hk,rfl,s,r,h⟩:=h;refine ⟨a,S,G,hk,rfl,s,r,(Ec h).imp ?_⟩;rintro v _ ⟨b,d,G1,rfl,x,s1,q,_,h1⟩;refine ⟨b,S,G1,x.k.trans hk,rfl,s1,r.mono x,(ZBR h1).imp ?_⟩;rintro l _ ⟨c,G2,rfl,y,s2,_,h2⟩;refine ⟨c,S,G2,y.k.trans (x.k.trans hk),rfl,s2,(r.mono x).mono y,(ZBR h2).imp ?_⟩;rintro u _ ⟨c3,G3,rfl,y3,s3,_,h3⟩;have hk3:=y3.k.trans (y.k.trans (x.k.trans hk));have q3:=(q.mono y).mono y3
 have lst:out E c3 (match Ga d G3 with | some xs=>.ok (.ref G3.length) (G3++ [.lst (cutD xs l u)]) | none=>.bad) Q->rSlL X.K v l u c3.H Q:=λh3=>by
  split at h3
  ·rename_i xs hx;obtain ⟨p,vs,e1,q1,r1⟩:=Z4 s3 q3 hx;exact ⟨p,vs,e1,by rw [<-hk3];exact q1,λp hp=>Ls s3 (Reps.cutD r1 l u) h3 p hp⟩
  ·exact h3.elim
 cases d with
 | str z=>
  have h4:out E c3 (if z.length<=1000000 then .ok (.str (Oj z l u)) G3 else .bad) Q:=h3;split at h4
  ·rename_i hl
   cases (show v=V.str z from q3)
   exact .inr (.inr (.inr ⟨z,rfl,Nat.le_trans hl size6,h4 c3 _ (Ext.refl _) s3 rfl⟩))
  ·exact h4.elim
 | tup xs=>
  have h4:out E c3 (.ok (.tup (cutD xs l u)) G3) Q:=h3;obtain ⟨p,vs,e1,q1,r1⟩:=q3;by_cases hw:HT.sIx vs.length 0 l=0/\HT.sIx vs.length vs.length u=vs.length
  ·refine .inr (.inr (.inl ⟨p,vs,e1,by rw [<-hk3];exact q1,hw,h4 c3 _ (Ext.refl _) s3 ⟨p,vs,rfl,q1,?_⟩⟩));have:cutD xs l u=xs:=by unfold cutD;rw [r1.length,hw.1,hw.2,<-r1.length];simp
   rw [this];exact r1
  ·exact .inr (.inl ⟨p,vs,e1,by rw [<-hk3];exact q1,hw,λp hp=>ZBa s3 (Reps.cutD r1 l u) h4 p hp⟩)
 | fl xs=>exact .inl (lst h3)
 | ref i=>exact .inl (lst h3)
 | non=>exact (show False from h3).elim
 | bl _=>exact (show False from h3).elim
 | int _=>exact (show False from h3).elim
 | ty _=>exact (show False from h3).elim
section
variable {name:Str} {id:String} {f:D->List D->DH->R D} {o e:Expr} {es:List Expr} {to:DE} {t:DA} {apos cpos:Pos}
end
end
section
variable {S:DSt} {G:DH}
@[simp] theorem ev_Sl {e:DE} {lo hi:Option DE}:dSl e lo hi S G=(e S G).bind λd G1=>(K7 lo S G1).bind λl G2=>(K7 hi S G2).bind λh G3=>La d l h G3:=id rfl
@[simp] theorem ZNK:K7 none S G=.ok none G:=id rfl
@[simp] theorem ZNA:K7 (some t) S G=(t S G).bind λd G1=>match d with | .int i=>.ok (some i) G1 | _=>.bad:=id rfl
@[simp] theorem ZDm {lo hi:Option Int}:La (.fl xs) lo hi G=.ok (.ref G.length) (G++ [.lst (cutD xs lo hi)]):=id rfl
@[simp] theorem ZNH:J9 [.fl xs] G=.ok (.ref G.length) (G++ [.lst xs]):=id rfl
@[simp] theorem Ku {ys:List D}:Ay (.fl xs) (.fl ys) G=if xs.length + ys.length<=1000000 then .ok (.ref G.length) (G++ [.lst (xs++ys)]) else .bad:=id rfl
end
end DL
namespace DL
open PySem PySem.Spec L2
open PyProof.Rows hiding St
open Builtin.Str
variable {g:DG} {c:DB} {te:DE} {S:DSt} {G:DH}
section
variable (p:Nat->Bool) (m:Nat)
end
noncomputable def CStep (g:DG) (c:DB) (te:DE) (S:DSt) (G:DH) (x:D) (r:Option D):Prop:=
 ∃S1,g x S G=.ok S1 G/\((c S1 G=.ok false G/\r=none)∨(c S1 G=.ok true G/\∃d,te S1 G=.ok d G/\r=some d))
theorem Yj {F:D->Option D}:∀{xs:List D},(∀x∈xs,CStep g c te S G x (F x))->Df g c te S xs G=.ok (xs.filterMap F) G
 | [],_=>rfl
 | x::xs,h=>by
  obtain ⟨S1,h1,h2⟩:=h x (by simp);have ih:=Yj (λy hy=>h y (List.mem_cons_of_mem _ hy));rw [Zc,h1];rcases h2 with ⟨h2,h3⟩ | ⟨h2,d,h3,h4⟩
  ·simp [h2,h3,ih,List.filterMap_cons]
  ·simp [h2,h3,h4,ih,List.filterMap_cons]
theorem ZDe {i:Nat} {F:D->Option D} {xs:List D} (hG:G[i]? =some (.lst xs)) (h:∀x∈xs,CStep g c te S G x (F x)):
  ∀(n j:Nat),j + n=xs.length->Dy i g c te S n j G=.ok ((xs.drop j).filterMap F) G
 | 0,j,hj=>by
  unfold Dy;rw [hG];simp only;rw [if_pos (by lia),List.drop_of_length_le (by lia)]
  rfl
 | n + 1,j,hj=>by
  have hlt:j < xs.length:=by lia
  have ih:=ZDe hG h n (j + 1) (by lia);obtain ⟨S1,h1,h2⟩:=h xs[j] (List.getElem_mem hlt);unfold Dy;rw [hG];simp only;rw [List.getElem?_eq_getElem hlt];simp only [h1,R.Jr];rw [List.drop_eq_getElem_cons hlt,List.filterMap_cons];rcases h2 with ⟨h2,h3⟩ | ⟨h2,d,h3,h4⟩
  ·simp [h2,h3,ih]
  ·simp [h2,h3,h4,ih]
theorem ZCP {i:Nat} {F:D->Option D} {xs:List D} (hG:G[i]? =some (.lst xs)) (h:∀x∈xs,CStep g c te S G x (F x)):
  Dy i g c te S xs.length 0 G=.ok (xs.filterMap F) G:=ZDe hG h xs.length 0 (by lia)
end DL
namespace DL
open PySem PySem.Spec L2
open PyProof.Rows hiding St
variable {h h':Heap} {p z:Addr} {k i:Nat} {old:Value} {os:List Value}
inductive Src where
 | l (a:Addr)
 | t (a:Addr)
variable {sr:Src} {l:List (Src×Addr)}
noncomputable def Src.itn:Src->String
 | .l _=>"list_iterator"
 | .t _=>"tuple_iterator"
noncomputable def Src.adr:Src->Addr
 | .l a=>a
 | .t a=>a
noncomputable def Src.it (h:Heap) (p:Addr) (k:Nat) (sr:Src):Prop:=∃o,h.get? p=some o/\o.cls=.type sr.itn/\o.data=.fields #[.ref sr.adr,.int k 0]
noncomputable def Src.val (h:Heap) (xs:Array Value):Src->Prop
 | .l a=>h.IsList a xs
 | .t a=>h.IsTuple a xs
theorem Src.it.at (x:sr.it h p k) (e:∀o,h.get? p=some o->h'.get? p=some o):sr.it h' p k:=let ⟨o,ho,r⟩:=x;⟨o,e o ho,r⟩
theorem Src.val.at {xs:Array Value} (x:sr.val h xs) (e:∀o,h.get? sr.adr=some o->h'.get? sr.adr=some o):sr.val h' xs:=by
 cases sr with
 | l a=>obtain ⟨o,ho,r⟩:=x;exact ⟨o,e o ho,r⟩
 | t a=>obtain ⟨o,ho,r⟩:=x;exact ⟨o,e o ho,r⟩
theorem Src.it.lt (x:sr.it h p k):p < h.objs.size:=let ⟨_,ho,_⟩:=x;Heap.lt_size ho
section
variable {prog:Program} {w:World} {A:Around} {E:Value->Shared->Prop} {s:Shared}
theorem Src.val.obj {xs:Array Value} (x:sr.val h xs):∃o n,h.get? sr.adr=some o/\o.data=.seq xs n:=by
 cases sr with
 | l a=>obtain ⟨o,ho,_,n,hd⟩:=x;exact ⟨o,n,ho,hd⟩
 | t a=>obtain ⟨o,ho,_,n,hd⟩:=x;exact ⟨o,n,ho,hd⟩
theorem Src.next_item {xs:Array Value} {x:Value} {Q:Value->Shared->Prop} (hit:sr.it s.heap p k) (hv:sr.val s.heap xs) (hx:xs[k]? =some x)
  (hQ:∀h',sr.it h' p (k + 1)->Heap.SameBut p s.heap h'->Q x {s with heap:=h'}):wpAny (model prog w) A (Builtin.SmallTypes.nextOf (.ref p)) Q E s:=by
 cases sr with
 | l a=>exact wpAny_nextOf_list_item (show s.heap.IsListIter p a k from hit) hv hx hQ
 | t a=>
  obtain ⟨o,ho,hc,hd⟩:=id hit;obtain ⟨ol,hol,_,nl,hdl⟩:=hv;have hT:s.TypeIs (.ref p) "tuple_iterator":=⟨o,ho,hc⟩;unfold Builtin.SmallTypes.nextOf;refine wpAny_bind (wpAny_callSpecial?_slot (name:=Str.ofString "__next__") hT PySem.F.slot_tuple_iterator_next (wpAny_call_entry PySem.F.slot_tuple_iterator_next hT PySem.F.entry_tuple_iterator_next ?_ (PySem.F.args_tuple_iterator_next_1 _)));refine wpAny_bind (m:=field (.ref p) 0) (wpAny_field ho hd (x:=.ref a) rfl ?_)
  show wpAny _ _ (if (Value.ref a == Value.none)=true then _ else (field (.ref p) 1 >>=_)) _ _ s
  rw [if_neg (show¬((Value.ref a == Value.none)=true) from Bool.false_ne_true)]
  refine wpAny_bind (m:=field (.ref p) 1) (wpAny_field ho hd (x:=.int k 0) rfl (wpAny_bind (m:=seqItems? (.ref a)) (wpAny_seqItems hol hdl ?_)));simp only [Int.toNat_natCast,hx];refine wpAny_bind (wpAny_setField ho hd (by simp) (wpAny_pure ⟨x,rfl,wpAny_pure (hQ _ ⟨_,Heap.get?_update_self _ ho (Obj.isFreed_of_fields (Obj.data_mapFields hd _)),(Obj.cls_mapFields ..).trans hc,?_⟩ (Heap.SameBut.update ..))⟩))
  rw [Obj.data_mapFields hd];simp [rawInt,Src.adr]
theorem Src.next_end {xs:Array Value} {Q:Value->Shared->Prop} (hh:A.handled=none) (hit:sr.it s.heap p k) (hv:sr.val s.heap xs) (hx:xs[k]? =none)
  (hE:∀h' e,Heap.ExtBut p s.heap h'->(∃o,h'.get? e=some o/\o.cls=.type "StopIteration")->E (.ref e) {s with heap:=h'}):wpAny (model prog w) A (Builtin.SmallTypes.nextOf (.ref p)) Q E s:=by
 cases sr with
 | l a=>exact wpAny_nextOf_list_end hh (show s.heap.IsListIter p a k from hit) hv hx hE
 | t a=>
  obtain ⟨o,ho,hc,hd⟩:=id hit;obtain ⟨ol,hol,_,nl,hdl⟩:=hv;have hT:s.TypeIs (.ref p) "tuple_iterator":=⟨o,ho,hc⟩;unfold Builtin.SmallTypes.nextOf;refine wpAny_bind (wpAny_callSpecial?_slot (name:=Str.ofString "__next__") hT PySem.F.slot_tuple_iterator_next (wpAny_call_entry PySem.F.slot_tuple_iterator_next hT PySem.F.entry_tuple_iterator_next ?_ (PySem.F.args_tuple_iterator_next_1 _)));refine wpAny_bind (m:=field (.ref p) 0) (wpAny_field ho hd (x:=.ref a) rfl ?_)
  show wpAny _ _ (if (Value.ref a == Value.none)=true then _ else (field (.ref p) 1 >>=_)) _ _ s
  rw [if_neg (show¬((Value.ref a == Value.none)=true) from Bool.false_ne_true)]
  refine wpAny_bind (m:=field (.ref p) 1) (wpAny_field ho hd (x:=.int k 0) rfl (wpAny_bind (m:=seqItems? (.ref a)) (wpAny_seqItems hol hdl ?_)));simp only [Int.toNat_natCast,hx];refine wpAny_bind (wpAny_rule (wpAny_bind (wpAny_setField ho hd (by simp) (wpAny_bind (m:=newExc (.type "StopIteration") []) ?_))));simp only [newExc,newTuple]
  refine wpAny_bind (wpAny_newObj_type (wpAny_bind (m:=firstArgMember _ _) (wpAny_of_eq (a:=Value.none) (by first | rfl | (simp only [firstArgMember];rfl)) (wpAny_newObj_type ?_ (by size_fits)))) (by size_fits))
  simp only [raiseNew];refine wpAny_bind (wpAny_handled ?_)
  first | rw [show A.in1.handled=none from hh] | rw [hh]
  exact wpAny_bind (wpAny_pure (wpAny_throw (hE _ _ (((Heap.SameBut.update ..).extBut.push _).push _) ⟨_,Heap.get?_push_size _ rfl,rfl⟩)))
theorem Src.iter {xs:Array Value} {Q:Value->Shared->Prop} (hv:sr.val s.heap xs)
  (hQ:Q (.ref s.heap.objs.size) {s with heap:=s.heap.push {cls:=.type sr.itn,data:=.fields #[.ref sr.adr,.int 0 0]}}):wpAny (model prog w) A (pyIter (.ref sr.adr)) Q E s:=by
 cases sr with
 | l a=>exact wpAny_pyIter_list hv hQ
 | t a=>exact wpAny_pyIter_tuple hv hQ
end
noncomputable abbrev En (h:Heap) (e it:Addr) (f0:Value) (i:Int) (g old:Value):Prop:=
 h.get? e=some {cls:=.type "enumerate",dict:=none,data:=.fields #[f0,.bool false,.ref it,rawInt i,g,old],slots:= #[]}
noncomputable def Gv (i:Int) (g:Value):Prop:=g=.none∨∃t,g=.int i t
section
variable {prog:Program} {w:World} {A:Around} {E:Value->Shared->Prop} {s:Shared}
theorem ZEY {e it:Addr} {i:Int} {xs:Array Value} {x g:Value} {Q:Value->Shared->Prop} (he:En s.heap e it .none i g old) (hg:Gv i g) (hit:sr.it s.heap it k) (hv:sr.val s.heap xs) (hx:xs[k]? =some x) (hne:e≠it)
  (hQ:∀h' t tk,En h' e it (rawInt s.heap.objs.size) (i + 1) .none x->sr.it h' it (k + 1)->h'.get? s.heap.objs.size=some {cls:=.type "tuple",data:=.seq #[.int i t,x]}->h'.objs.size=s.heap.objs.size + 1->
   (∀b o,b≠e->b≠it->s.heap.get? b=some o->h'.get? b=some o)->Q (.ref s.heap.objs.size) {s with heap:=h',toks:=tk}):
  wpAny (model prog w) A (Builtin.«enumerate.__next__» ⟨[.ref e],[]⟩) (λfin s'=>∃v,fin=.done (.ret v)/\Q v s') E s:=by
 obtain ⟨hp,gg,d,tk,os⟩:=s;refine wpAny_bind (m:=field (.ref e) 2) (wpAny_field he rfl (x:=.ref it) rfl (wpAny_bind (m:=Builtin.SmallTypes.nextOf (.ref it)) (Src.next_item hit hv hx λh₁ hit₁ hs₁=> ?_)));have he₁:En h₁ e it .none i g old:=(hs₁.2 e hne).trans he;have k₁:∀b o,b≠e->b≠it->hp.get? b=some o->h₁.get? b=some o:=λb o _ hb q=>hs₁.extBut b o hb q
 have z₁:h₁.objs.size=hp.objs.size:=hs₁.1;refine wpAny_bind (m:=field (.ref e) 3) (wpAny_field he₁ rfl (x:=rawInt i) rfl ?_);refine wpAny_bind (m:=field (.ref e) 4) (wpAny_field he₁ rfl (x:=g) rfl ?_)
 have rest:∀(t:Tok) (tk':Nat),wpAny (model prog w) A (do
   setField (.ref e) 3 (rawInt (i + 1));setField (.ref e) 4 .none
   let result<-newTuple [.int i t,x]
   if<-Builtin.SmallTypes.ownedTupleIsFree (.ref e) then
    rule "enumerate.__next__.owned-tuple-again"
    let old<-field (.ref e) 5
    setField (.ref e) 5 x
    Builtin.SmallTypes.ownedTupleHandOut (.ref e) result
    PySem.letGo [old] [result]
   ret result) (λfin s'=>∃v,fin=.done (.ret v)/\Q v s') E ⟨h₁,gg,d,tk',os⟩:=by
  intro t tk';refine wpAny_bind (wpAny_setField_rec he₁ (by simp) λh₂ he₂ hs₂=> ?_);refine wpAny_bind (wpAny_setField_rec he₂ (by simp) λh₃ he₃ hs₃=> ?_)
  replace he₃:En h₃ e it .none (i + 1) .none old:=he₃
  have z₃:h₃.objs.size=hp.objs.size:=by rw [hs₃.1];show h₂.objs.size=_;rw [hs₂.1];exact z₁
  have k₃:∀b o,b≠e->b≠it->hp.get? b=some o->h₃.get? b=some o:=λb o h1 h2 q=>hs₃.extBut b o h1 (hs₂.extBut b o h1 (k₁ b o h1 h2 q))
  have i₃:sr.it h₃ it (k + 1):=(hit₁.at λo q=>hs₂.extBut it o (Ne.symm hne) q).at λo q=>hs₃.extBut it o (Ne.symm hne) q
  refine wpAny_bind (wpAny_newTuple ?_);generalize hh₄:h₃.push {cls:=.type "tuple",data:=.seq [Value.int i t,x].toArray}=h₄;have he₄:En h₄ e it .none (i + 1) .none old:=by rw [<-hh₄];exact Heap.get?_push_of_some _ he₃
  have ht₄:h₄.get? hp.objs.size=some {cls:=.type "tuple",data:=.seq #[.int i t,x]}:=by rw [<-hh₄,<-z₃];exact Heap.get?_push_size _ rfl
  have z₄:h₄.objs.size=hp.objs.size + 1:=by rw [<-hh₄,Heap.size_push,z₃]
  have k₄:∀b o,b≠e->b≠it->hp.get? b=some o->h₄.get? b=some o:=λb o h1 h2 q=>by rw [<-hh₄];exact Heap.get?_push_of_some _ (k₃ b o h1 h2 q)
  have i₄:sr.it h₄ it (k + 1):=i₃.at λo q=>by rw [<-hh₄];exact Heap.get?_push_of_some _ q
  have ez:e < hp.objs.size:=Heap.lt_size he;refine wpAny_bind (m:=Builtin.SmallTypes.ownedTupleIsFree (.ref e)) ?_;unfold Builtin.SmallTypes.ownedTupleIsFree;refine wpAny_bind (wpAny_field he₄ rfl (x:=.none) rfl (wpAny_pure ?_));simp only [if_true];refine wpAny_bind (wpAny_rule (wpAny_bind (wpAny_field he₄ rfl (x:=old) rfl (wpAny_bind (wpAny_setField_rec he₄ (by simp) λh₅ he₅ hs₅=> ?_)))))
  replace he₅:En h₅ e it .none (i + 1) .none x:=he₅
  refine wpAny_bind (m:=Builtin.SmallTypes.ownedTupleHandOut _ _) ?_;unfold Builtin.SmallTypes.ownedTupleHandOut;refine wpAny_bind (wpAny_setField_rec he₅ (by simp) λh₆ he₆ hs₆=> ?_);refine wpAny_setField_rec he₆ (by simp) λh₇ he₇ hs₇=> ?_
  refine wpAny_bind (wpAny_letGo (wpAny_pure ⟨_,rfl,?_⟩));have up:∀b o,b≠e->h₄.get? b=some o->h₇.get? b=some o:=λb o hb q=>hs₇.extBut b o hb (hs₆.extBut b o hb (hs₅.extBut b o hb q))
  show Q (.ref h₃.objs.size) _;rw [z₃];rw [z₃] at he₇;exact hQ h₇ t tk' he₇ (i₄.at λo q=>up it o (Ne.symm hne) q) (up _ _ (Nat.ne_of_gt ez) ht₄) (by rw [hs₇.1];show h₆.objs.size=_;rw [hs₆.1];show h₅.objs.size=_;rw [hs₅.1];exact z₄) λb o h1 h2 q=>up b o h1 (k₄ b o h1 h2 q)
 rcases hg with rfl | ⟨t,rfl⟩
 ·exact wpAny_bind (m:=mkInt i) (wpAny_mkInt (rest tk (tk + 1)))
 ·exact wpAny_bind (m:=(pure (Value.int i t):Sem Value)) (wpAny_pure (rest t tk))
theorem ZJQ {e it:Addr} {i:Int} {xs:Array Value} {x g:Value} {Q:Option Value->Shared->Prop} (he:En s.heap e it .none i g old) (hg:Gv i g) (hit:sr.it s.heap it k) (hv:sr.val s.heap xs) (hx:xs[k]? =some x) (hne:e≠it)
  (hQ:∀h' t tk,En h' e it (rawInt s.heap.objs.size) (i + 1) .none x->sr.it h' it (k + 1)->h'.get? s.heap.objs.size=some {cls:=.type "tuple",data:=.seq #[.int i t,x]}->h'.objs.size=s.heap.objs.size + 1->
   (∀b o,b≠e->b≠it->s.heap.get? b=some o->h'.get? b=some o)->Q (some (.ref s.heap.objs.size)) {s with heap:=h',toks:=tk}):
  wpAny (model prog w) A (pyNext (.ref e)) Q E s:=by
 have hT:s.TypeIs (.ref e) "enumerate":=⟨_,he,rfl⟩;unfold pyNext;exact wpAny_bind (wpAny_attempt (wpAny_callSpecial?_slot (name:=Str.ofString "__next__") hT PySem.F.slot_enumerate_next
  (wpAny_call_entry PySem.F.slot_enumerate_next hT PySem.F.entry_enumerate_next (ZEY he hg hit hv hx hne λh' t tk a1 a2 a3 a4 a5=>wpAny_pure (hQ h' t tk a1 a2 a3 a4 a5)) (PySem.F.args_enumerate_next_1 _))))
theorem ZKd {e it:Addr} {i:Int} {xs:Array Value} {g:Value} {Q:Option Value->Shared->Prop} (hh:A.handled=none) (he:En s.heap e it .none i g old) (hit:sr.it s.heap it k) (hv:sr.val s.heap xs) (hx:xs[k]? =none)
  (hQ:∀h',Heap.ExtBut it s.heap h'->Q none {s with heap:=h'}):wpAny (model prog w) A (pyNext (.ref e)) Q E s:=by
 have hT:s.TypeIs (.ref e) "enumerate":=⟨_,he,rfl⟩;unfold pyNext;refine wpAny_bind (wpAny_attempt (wpAny_callSpecial?_slot (name:=Str.ofString "__next__") hT PySem.F.slot_enumerate_next
  (wpAny_call_entry PySem.F.slot_enumerate_next hT PySem.F.entry_enumerate_next (wpAny_bind (m:=field (.ref e) 2) (wpAny_field he rfl (x:=.ref it) rfl (wpAny_bind (m:=Builtin.SmallTypes.nextOf (.ref it)) (Src.next_end hh hit hv hx λh' x he' hx'=> ?_)))) (PySem.F.args_enumerate_next_1 _))))
 obtain ⟨o,ho,hc⟩:=hx';exact wpAny_bind (wpAny_isInstance (T:="StopIteration") (b:=true) ⟨o,ho,hc⟩ isSubtype_stop (wpAny_pure (hQ _ he')))
theorem ZGQ {elts:List Expr} {x1} {pos:Pos} {e it a:Addr} {i:Int} {g:Value} {Q:Unit->Shared->Prop} (he:En s.heap e it (rawInt a) i g old)
  (hQ:∀h',En h' e it .none i g old->Heap.SameBut e s.heap h'->Q () {s with heap:=h'}):wpAny (model prog w) A (letOwnedTupleGo (.Tuple elts x1 pos) (.ref e) (.ref a)) Q E s:=by
 unfold letOwnedTupleGo;refine wpAny_bind (wpAny_load he ?_);dsimp only;rw [if_pos (by simp)];exact wpAny_bind (wpAny_rule (wpAny_setField_rec he (by simp) λh' he' hs'=>hQ h' he' hs'))
theorem ZBN {e it:Addr} {f0:Value} {i:Int} {g:Value} {Q:Value->Shared->Prop} (he:En s.heap e it f0 i g old) (h:Q (.ref e) s):wpAny (model prog w) A (pyIter (.ref e)) Q E s:=by have hT:s.TypeIs (.ref e) "enumerate":=⟨_,he,rfl⟩;exact wpAny_pyIter_slot hT PySem.F.slot_enumerate_iter (wpAny_call_entry PySem.F.slot_enumerate_iter hT PySem.F.entry_enumerate_iter (wpAny_pure ⟨_,rfl,"enumerate",_,hT,PySem.F.slot_enumerate_next.lookup,h⟩) (PySem.F.args_enumerate_iter_1 _))
end
noncomputable abbrev Tp (h:Heap) (T:Addr) (xs:List Value):Prop:=h.get? T=some {cls:=.type "tuple",data:=.seq xs.toArray}
inductive Drw (h:Heap) (i:Nat):List (Src×Addr)->List Value->Prop where
 | nil:Drw h i [] []
 | cons {sr p r x us xs} (hit:Src.it h p i sr) (hv:sr.val h xs) (hx:xs[i]? =some x) (t:Drw h i r us):Drw h i ((sr,p)::r) (x::us)
theorem Drw.length {us:List Value} (d:Drw h i l us):us.length=l.length:=by
 induction d with
 | nil=>rfl
 | cons _ _ _ _ ih=>simp [ih]
section
variable {prog:Program} {w:World} {A:Around} {E:Value->Shared->Prop} {s:Shared}
theorem ZD6 {T:Addr} {xs:List Value} {x:Value} {Q:Unit->Shared->Prop} (hT:Tp s.heap T xs) (hz:xs.length<=1000000)
  (h:∀h',Tp h' T (xs.set k x)->Heap.SameBut T s.heap h'->Q () {s with heap:=h'}):wpAny (model prog w) A (updateSeq T (·.setIfInBounds k x)) Q E s:=by
 have h1:xs.toArray.size<=sizeLine:=by rw [List.size_toArray];exact Nat.le_trans hz size6
 refine wpAny_updateSeq hT rfl (h _ ?_ (Heap.SameBut.update ..)) h1 (by rw [Array.size_setIfInBounds];exact Nat.le_succ_of_le h1);show (s.heap.update T _).get? T=_;rw [Heap.get?_update_self _ hT rfl];simp [Obj.mapSeq]
noncomputable def ZS (prog:Program) (w:World) (A:Around) (E:Value->Shared->Prop) (z TO p:Addr) (k:Nat) (R:Shared->Prop) (s:Shared):Prop:=
 wpAny (model prog w) A (Builtin.SmallTypes.nextOf (.ref p)) (λx s1=>∃os,Tp s1.heap TO os/\os.length<=1000000/\∀h',Tp h' TO (os.set k x)->Heap.SameBut TO s1.heap h'->R {s1 with heap:=h'})
  (λe s'=>wpAny (model prog w) A (setField (.ref z) 0 .none) (λ_ s''=>E e s'') E s') s
theorem ZCH {TO:Addr} {xs:Array Value} {x:Value} {Q:Shared->Prop} (hTO:Tp s.heap TO os) (hz:os.length<=1000000) (hit:sr.it s.heap p i) (hv:sr.val s.heap xs) (hx:xs[i]? =some x)
  (h:∀h',Tp h' TO (os.set k x)->sr.it h' p (i + 1)->(∀b o,b≠TO->b≠p->s.heap.get? b=some o->h'.get? b=some o)->h'.objs.size=s.heap.objs.size->Q {s with heap:=h'}):ZS prog w A E z TO p k Q s:=by
 have hne:TO≠p:=λe=>by
  obtain ⟨o,ho,hc,_⟩:=hit;rw [<-e,hTO] at ho;cases ho
  cases sr <;> (simp [Src.itn] at hc)
 refine Src.next_item hit hv hx λh₁ it₁ sb₁=>⟨os,sb₁.extBut _ _ hne hTO,hz,λh₂ t₂ sb₂=> ?_⟩
 exact h h₂ t₂ (it₁.at λo e=>sb₂.extBut _ _ (Ne.symm hne) e) (λb o b1 b2 e=>sb₂.extBut b o b1 (sb₁.extBut b o b2 e)) (by rw [sb₂.1];show h₁.objs.size=_;rw [sb₁.1])
theorem ZCF {TO:Addr} {body:Value×Nat->Option Fin×PUnit->Sem (ForInStep (Option Fin×PUnit))} {R:Option Fin×PUnit->Shared->Prop}
  (hb:∀(p:Addr) (k:Nat) (s:Shared) (R':ForInStep (Option Fin×PUnit)->Shared->Prop),ZS prog w A E z TO p k (λs'=>R' (.yield (none,⟨⟩)) s') s->
   wpAny (model prog w) A (body (.ref p,k) (none,⟨⟩)) R' E s):
  ∀(l:List (Src×Addr)) (us pre post:List Value) (s:Shared),Drw s.heap i l us->Tp s.heap TO (pre++post)->post.length=l.length->(pre++post).length<=1000000->(l.map (·.2)).Nodup->(∀q∈l,q.1.adr≠TO)->(∀q∈l,∀r∈l,q.1.adr≠r.2)->
   (∀h',Tp h' TO (pre++us)->(∀q∈l,q.1.it h' q.2 (i + 1))->(∀b o,b≠TO->b ∉ l.map (·.2)->s.heap.get? b=some o->h'.get? b=some o)->h'.objs.size=s.heap.objs.size->R (none,⟨⟩) {s with heap:=h'})->
   wpAny (model prog w) A (forIn ((l.map λq=>Value.ref q.2).zipIdx pre.length) (none,⟨⟩) body) R E s
 | [],us,pre,post,s,d,hT,hl,hz,nd,na,np,hR=>by
  cases d;cases post with
  | cons _ _=>simp at hl
  | nil=>
   rw [List.map_nil,List.zipIdx_nil,List.forIn_nil];exact wpAny_pure (hR s.heap hT (λq hq=>by cases hq) (λb o _ _ e=>e) rfl)
 | (sr,p)::l,us,pre,post,s,d,hT,hl,hz,nd,na,np,hR=>by
  cases d with
  | @cons _ _ _ x us xs hit hv hx d=>
  cases post with
  | nil=>simp at hl
  | cons y post=>
   rw [List.map_cons,List.zipIdx_cons,List.forIn_cons];refine wpAny_bind (hb p pre.length s _ (ZCH hT hz hit hv hx λh' hT' it' kp sz=> ?_));have e1:(pre++y::post).set pre.length x=(pre++ [x])++post:=by simp
   rw [e1] at hT';have e2:pre.length + 1=(pre++ [x]).length:=by simp
   dsimp only;rw [e2]
   have nd':p ∉ l.map (·.2)/\(l.map (·.2)).Nodup:=by simpa using nd
   have hTOp:∀q∈l,q.2≠TO:=λq hq e=>by
    have:∃sr k,Src.it s.heap q.2 k sr:=by
     clear hR na np nd nd' e1 e2 hl hT' hz
     induction d with
     | nil=>cases hq
     | cons hit _ _ _ ih=>
      rcases List.mem_cons.mp hq with rfl | hq
      ·exact ⟨_,_,hit⟩
      ·exact ih hq
    obtain ⟨sr',k,o,ho,hc,_⟩:=this;rw [e,hT] at ho;cases ho
    cases sr' <;> (simp [Src.itn] at hc)
   have d':Drw h' i l us:=by
    have na':∀q∈l,q.1.adr≠TO:=λq hq=>na q (List.mem_cons_of_mem _ hq)
    have np':∀q∈l,q.1.adr≠p:=λq hq=>np q (List.mem_cons_of_mem _ hq) (sr,p) List.mem_cons_self
    have pp:∀q∈l,q.2≠p:=λq hq e=>nd'.1 (List.mem_map.mpr ⟨q,hq,e⟩)
    clear hR na np nd nd' e1 e2 hl hT' hz
    induction d with
    | nil=>exact .nil
    | @cons sr1 p1 r1 x1 us1 xs1 hit1 hv1 hx1 t1 ih=>
     refine .cons (hit1.at λo e=>kp _ o (hTOp _ List.mem_cons_self) (pp _ List.mem_cons_self) e) (hv1.at λo e=>kp _ o (na' _ List.mem_cons_self) (np' _ List.mem_cons_self) e) hx1 ?_;exact ih (λq hq=>hTOp q (List.mem_cons_of_mem _ hq)) (λq hq=>na' q (List.mem_cons_of_mem _ hq)) (λq hq=>np' q (List.mem_cons_of_mem _ hq)) (λq hq=>pp q (List.mem_cons_of_mem _ hq))
   refine ZCF hb l us (pre++ [x]) post {s with heap:=h'} d' hT' (by simpa using hl) (by simpa using hz) nd'.2 (λq hq=>na q (List.mem_cons_of_mem _ hq)) (λq hq r hr=>np q (List.mem_cons_of_mem _ hq) r (List.mem_cons_of_mem _ hr)) λh'' t'' its'' kp'' sz''=> ?_
   have hpTO:p≠TO:=λe=>by
    obtain ⟨o,ho,hc,_⟩:=hit;rw [e,hT] at ho;cases ho
    cases sr <;> (simp [Src.itn] at hc)
   refine hR h'' (by simpa using t'') (λq hq=> ?_) (λb o b1 b2 e=> ?_) (sz''.trans sz)
   ·rcases List.mem_cons.mp hq with rfl | hq
    ·exact it'.at λo e=>kp'' _ o hpTO nd'.1 e
    ·exact its'' q hq
   ·simp only [List.map_cons,List.mem_cons,not_or] at b2;exact kp'' b o b1 b2.2 (kp b o b1 b2.1 e)
end
inductive DrwE (h:Heap) (i:Nat):List (Src×Addr)->Prop where
 | here {sr p r xs} (hit:Src.it h p i sr) (hv:sr.val h xs) (hx:xs[i]? =none):DrwE h i ((sr,p)::r)
 | there {sr p r x xs} (hit:Src.it h p i sr) (hv:sr.val h xs) (hx:xs[i]? =some x) (t:DrwE h i r):DrwE h i ((sr,p)::r)
structure ApZ (TO:Addr) (l:List (Src×Addr)):Prop where
 nd:(l.map (·.2)).Nodup
 na:∀q∈l,q.1.adr≠TO
 np:∀q∈l,∀r∈l,q.1.adr≠r.2
 to:∀q∈l,q.2≠TO
theorem ApZ.tail {TO:Addr} {q:Src×Addr} (a:ApZ TO (q::l)):ApZ TO l:=
 ⟨(List.nodup_cons.mp (by simpa using a.nd)).2,λq hq=>a.na q (List.mem_cons_of_mem _ hq),λq hq r hr=>a.np q (List.mem_cons_of_mem _ hq) r (List.mem_cons_of_mem _ hr),λq hq=>a.to q (List.mem_cons_of_mem _ hq)⟩
section
variable {prog:Program} {w:World} {A:Around} {E:Value->Shared->Prop} {s:Shared}
theorem DrwE.at {TO:Addr} (a:ApZ TO ((sr,p)::l)) (kp:∀b o,b≠TO->b≠p->h.get? b=some o->h'.get? b=some o) (d:DrwE h i l):DrwE h' i l:=by
 have pp:∀q∈l,q.2≠p:=λq hq e=>(List.nodup_cons.mp (by simpa using a.nd)).1 (List.mem_map.mpr ⟨q,hq,e⟩)
 have np:∀q∈l,q.1.adr≠p:=λq hq=>a.np q (List.mem_cons_of_mem _ hq) (sr,p) List.mem_cons_self
 have a':=a.tail;clear a
 induction d with
 | here hit hv hx=>exact .here (hit.at λo e=>kp _ o (a'.to _ List.mem_cons_self) (pp _ List.mem_cons_self) e) (hv.at λo e=>kp _ o (a'.na _ List.mem_cons_self) (np _ List.mem_cons_self) e) hx
 | there hit hv hx t ih=>
  exact .there (hit.at λo e=>kp _ o (a'.to _ List.mem_cons_self) (pp _ List.mem_cons_self) e) (hv.at λo e=>kp _ o (a'.na _ List.mem_cons_self) (np _ List.mem_cons_self) e) hx
   (ih (λq hq=>pp q (List.mem_cons_of_mem _ hq)) (λq hq=>np q (List.mem_cons_of_mem _ hq)) a'.tail)
theorem ZDF {TO:Addr} {body:Value×Nat->Option Fin×PUnit->Sem (ForInStep (Option Fin×PUnit))} {R:Option Fin×PUnit->Shared->Prop} (hh:A.handled=none)
  (hb:∀(p:Addr) (k:Nat) (s:Shared) (R':ForInStep (Option Fin×PUnit)->Shared->Prop),ZS prog w A E z TO p k (λs'=>R' (.yield (none,⟨⟩)) s') s->
   wpAny (model prog w) A (body (.ref p,k) (none,⟨⟩)) R' E s):
  ∀(l:List (Src×Addr)) (os:List Value) (n:Nat) (s:Shared),DrwE s.heap i l->Tp s.heap TO os->os.length<=1000000->ApZ TO l->
   (∀h' e,(∀b o,b≠TO->b ∉ l.map (·.2)->s.heap.get? b=some o->h'.get? b=some o)->(∃o,h'.get? e=some o/\o.cls=.type "StopIteration")->wpAny (model prog w) A (setField (.ref z) 0 .none) (λ_ s''=>E (.ref e) s'') E {s with heap:=h'})->
   wpAny (model prog w) A (forIn ((l.map λq=>Value.ref q.2).zipIdx n) (none,⟨⟩) body) R E s
 | [],os,n,s,d,hT,hz,a,hE=>by cases d
 | (sr,p)::l,os,n,s,d,hT,hz,a,hE=>by
  rw [List.map_cons,List.zipIdx_cons,List.forIn_cons];refine wpAny_bind (hb p n s _ ?_);cases d with
  | here hit hv hx=>
   exact Src.next_end hh hit hv hx λh' e xb st=>hE h' e (λb o b1 b2 q=>xb b o (λz=>b2 (by rw [z];simp)) q) st
  | there hit hv hx t=>
   refine ZCH hT hz hit hv hx λh' hT' it' kp sz=> ?_
   refine ZDF hh hb l _ (n + 1) {s with heap:=h'} (t.at a kp) hT' (by simpa using hz) a.tail λh'' e kp'' st=> ?_
   refine hE h'' e (λb o b1 b2 q=> ?_) st;simp only [List.map_cons,List.mem_cons,not_or] at b2;exact kp'' b o b1 b2.2 (kp b o b1 b2.1 q)
theorem ZBi {TI TO:Addr} {R:Fin->Shared->Prop} (hz:IsZip s.heap z TI TO .none) (hTI:Tp s.heap TI (l.map λq=>Value.ref q.2)) (hne:l≠ [])
  (h:∀h₁,IsZip h₁ z TI TO .ellipsis->Heap.SameBut z s.heap h₁->∀body:Value×Nat->Option Fin×PUnit->Sem (ForInStep (Option Fin×PUnit)),
   (∀(p:Addr) (k:Nat) (s:Shared) (R':ForInStep (Option Fin×PUnit)->Shared->Prop),ZS prog w A E z TO p k (λs'=>R' (.yield (none,⟨⟩)) s') s->
    wpAny (model prog w) A (body (.ref p,k) (none,⟨⟩)) R' E s)->
   wpAny (model prog w) A (forIn ((l.map λq=>Value.ref q.2).zipIdx 0) (none,⟨⟩) body) (λr s'=>r.1=none/\∃us,Tp s'.heap TO us/\us.length<=1000000/\IsZip s'.heap z TI TO .ellipsis/\
    ∀h',IsZip h' z TI TO (rawInt s'.heap.objs.size)->Tp h' s'.heap.objs.size us->h'.objs.size=s'.heap.objs.size + 1->(∀b o,b≠z->s'.heap.get? b=some o->h'.get? b=some o)->R (.done (.ret (.ref s'.heap.objs.size))) {s' with heap:=h'}) E {s with heap:=h₁}):
  wpAny (model prog w) A (Builtin.«zip.__next__» ⟨[.ref z],[]⟩) R E s:=by
 refine wpAny_bind (m:=field (.ref z) 2) (wpAny_field hz rfl (x:=.bool false) rfl (wpAny_bind (m:=field (.ref z) 3) (wpAny_field hz rfl (x:=.ref TI) rfl (wpAny_bind (m:=seqItems? (.ref TI)) (wpAny_seqItems hTI rfl ?_)))));dsimp only;have hemp:(l.map λq=>Value.ref q.2).toArray.isEmpty=false:=by cases l with
  | nil=>exact absurd rfl hne
  | cons _ _=>simp
 rw [hemp];refine wpAny_bind (m:=Builtin.SmallTypes.ownedTupleIsFree (.ref z)) ?_;unfold Builtin.SmallTypes.ownedTupleIsFree;refine wpAny_bind (wpAny_field hz rfl (x:=.none) rfl (wpAny_pure ?_));simp only [if_true];refine wpAny_bind (wpAny_rule (wpAny_bind (wpAny_field hz rfl (x:=.ref TO) rfl (wpAny_bind (wpAny_setField_rec hz (by simp) λh₁ hz₁ hs₁=> ?_)))));refine wpAny_bind (wpAny_mono (h h₁ hz₁ hs₁ _ λp k s R' hst=> ?_) (λr s' hr=> ?_) λ_ _ x=>x)
 ·refine wpAny_bind (wpAny_onRaise ?_);show wpAny _ _ (Builtin.SmallTypes.nextOf (.ref p) >>=λv=>pure (some v)) _ _ s;refine wpAny_bind (wpAny_mono hst (λx s1 hx=>wpAny_pure ?_) λ_ _ x=>x);obtain ⟨os,hT,hl,hR⟩:=hx;dsimp only;refine wpAny_bind (wpAny_seqItems hT rfl ?_);dsimp only;exact wpAny_bind (ZD6 hT hl λh' t' sb=>wpAny_bind (wpAny_letGo (wpAny_pure (hR h' t' sb))))
 ·obtain ⟨hn,us,hT,hl,hzz,hR⟩:=hr;rw [hn];dsimp only;refine wpAny_bind (wpAny_seqItems hT rfl ?_);dsimp only;refine wpAny_bind (wpAny_newTuple ?_ (by show us.toArray.toList.length<=_;simpa using Nat.le_trans hl size6));have hzlt:z < s'.heap.objs.size:=Heap.lt_size hzz;refine wpAny_bind (m:=Builtin.SmallTypes.ownedTupleHandOut _ _) ?_;unfold Builtin.SmallTypes.ownedTupleHandOut;have e1:us.toArray.toList.toArray=us.toArray:=by simp
  rw [e1];have hz2:IsZip (s'.heap.push {cls:=.type "tuple",data:=.seq us.toArray}) z TI TO .ellipsis:=Heap.get?_push_of_some _ hzz;refine wpAny_bind (wpAny_setField_rec hz2 (by simp) λh₇ hz₇ hs₇=> ?_);refine wpAny_setField_rec hz₇ (by simp) λh₈ hz₈ hs₈=> ?_
  refine wpAny_pure (hR h₈ hz₈ ?_ ?_ λb o hb q=>hs₈.extBut _ _ hb (hs₇.extBut _ _ hb (Heap.get?_push_of_some _ q)))
  ·exact hs₈.extBut _ _ (Nat.ne_of_gt hzlt) (hs₇.extBut _ _ (Nat.ne_of_gt hzlt) (Heap.get?_push_size _ rfl))
  ·rw [hs₈.1];show h₇.objs.size=_;rw [hs₇.1,Heap.size_push]
theorem ZEJ {TI TO:Addr} {us:List Value} {Q:Option Value->Shared->Prop} (hz:IsZip s.heap z TI TO .none) (hTI:Tp s.heap TI (l.map λq=>Value.ref q.2)) (hTO:Tp s.heap TO os) (hlen:os.length=l.length) (hsz:l.length<=1000000) (hne:l≠ [])
  (a:ApZ TO l) (zz:z≠TO/\(∀q∈l,q.2≠z/\q.1.adr≠z)) (d:Drw s.heap i l us)
  (hQ:∀h',IsZip h' z TI TO (rawInt s.heap.objs.size)->Tp h' TO us->(∀q∈l,q.1.it h' q.2 (i + 1))->Tp h' s.heap.objs.size us->h'.objs.size=s.heap.objs.size + 1->
   (∀b o,b≠z->b≠TO->b ∉ l.map (·.2)->s.heap.get? b=some o->h'.get? b=some o)->Q (some (.ref s.heap.objs.size)) {s with heap:=h'}):wpAny (model prog w) A (pyNext (.ref z)) Q E s:=by
 have hT:s.TypeIs (.ref z) "zip":=⟨_,hz,rfl⟩;unfold pyNext;refine wpAny_bind (wpAny_attempt (wpAny_callSpecial?_slot (name:=Str.ofString "__next__") hT PySem.F.slot_zip_next (wpAny_call_entry PySem.F.slot_zip_next hT PySem.F.entry_zip_next ?_ (PySem.F.args_zip_next_1 _))));refine ZBi hz hTI hne λh₁ hz₁ hs₁ body hb=> ?_
 have k₁:∀b o,b≠z->s.heap.get? b=some o->h₁.get? b=some o:=λb o hb q=>hs₁.extBut b o hb q
 have d₁:Drw h₁ i l us:=by
  have h1:∀q∈l,q.2≠z/\q.1.adr≠z:=zz.2;clear hTI hlen hsz hne a zz hQ
  induction d with
  | nil=>exact .nil
  | cons hit hv hx t ih=>exact .cons (hit.at λo e=>k₁ _ o (h1 _ List.mem_cons_self).1 e) (hv.at λo e=>k₁ _ o (h1 _ List.mem_cons_self).2 e) hx (ih λq hq=>h1 q (List.mem_cons_of_mem _ hq))
 refine ZCF (z:=z) (TO:=TO) (i:=i) hb l us [] os {s with heap:=h₁} d₁ (k₁ _ _ (Ne.symm zz.1) hTO) hlen (by simpa [hlen] using hsz) a.nd a.na a.np λh₂ t₂ it₂ k₂ sz₂=>⟨rfl,us,t₂,by rw [d.length];exact hsz,?_,λh₃ z₃ p₃ s₃ k₃=> ?_⟩
 ·refine k₂ _ _ zz.1 (λhm=> ?_) hz₁;obtain ⟨q,hq,e⟩:=List.mem_map.mp hm;exact (zz.2 q hq).1 e
 ·have e2:h₂.objs.size=s.heap.objs.size:=by rw [sz₂];exact hs₁.1
  refine ⟨_,rfl,wpAny_pure ?_⟩;show Q (some (.ref h₂.objs.size)) _;have z₃':IsZip h₃ z TI TO (rawInt h₂.objs.size):=z₃;have p₃':Tp h₃ h₂.objs.size us:=p₃;have s₃':h₃.objs.size=h₂.objs.size + 1:=s₃;have k₃':∀b o,b≠z->h₂.get? b=some o->h₃.get? b=some o:=k₃;rw [e2] at z₃' p₃' s₃' ⊢;exact hQ h₃ z₃' (k₃' _ _ (Ne.symm zz.1) t₂) (λq hq=>(it₂ q hq).at λo e=>k₃' _ o (zz.2 q hq).1 e) p₃' s₃' λb o b1 b2 b3 q=>k₃' b o b1 (k₂ b o b2 b3 (k₁ b o b1 q))
theorem ZKY {TI TO:Addr} {Q:Option Value->Shared->Prop} (hh:A.handled=none) (hz:IsZip s.heap z TI TO .none) (hTI:Tp s.heap TI (l.map λq=>Value.ref q.2)) (hTO:Tp s.heap TO os) (hlen:os.length=l.length) (hsz:l.length<=1000000) (hne:l≠ [])
  (a:ApZ TO l) (zz:z≠TO/\(∀q∈l,q.2≠z/\q.1.adr≠z)) (d:DrwE s.heap i l)
  (hQ:∀h',(∀b o,b≠z->b≠TO->b ∉ l.map (·.2)->s.heap.get? b=some o->h'.get? b=some o)->Q none {s with heap:=h'}):wpAny (model prog w) A (pyNext (.ref z)) Q E s:=by
 have hT:s.TypeIs (.ref z) "zip":=⟨_,hz,rfl⟩;unfold pyNext;refine wpAny_bind (wpAny_attempt (wpAny_callSpecial?_slot (name:=Str.ofString "__next__") hT PySem.F.slot_zip_next (wpAny_call_entry PySem.F.slot_zip_next hT PySem.F.entry_zip_next ?_ (PySem.F.args_zip_next_1 _))));refine ZBi hz hTI hne λh₁ hz₁ hs₁ body hb=> ?_
 have k₁:∀b o,b≠z->s.heap.get? b=some o->h₁.get? b=some o:=λb o hb q=>hs₁.extBut b o hb q
 have d₁:DrwE h₁ i l:=by
  have h1:∀q∈l,q.2≠z/\q.1.adr≠z:=zz.2;clear hTI hlen hsz hne a zz hQ
  induction d with
  | here hit hv hx=>exact .here (hit.at λo e=>k₁ _ o (h1 _ List.mem_cons_self).1 e) (hv.at λo e=>k₁ _ o (h1 _ List.mem_cons_self).2 e) hx
  | there hit hv hx t ih=>exact .there (hit.at λo e=>k₁ _ o (h1 _ List.mem_cons_self).1 e) (hv.at λo e=>k₁ _ o (h1 _ List.mem_cons_self).2 e) hx (ih λq hq=>h1 q (List.mem_cons_of_mem _ hq))
 refine ZDF (A:=A.in1) (z:=z) (TO:=TO) (i:=i) (show A.in1.handled=none from hh) hb l os 0 {s with heap:=h₁} d₁ (k₁ _ _ (Ne.symm zz.1) hTO) (by rw [hlen];exact hsz) a λh₂ e k₂ st=> ?_
 have hz₂:IsZip h₂ z TI TO .ellipsis:=by refine k₂ _ _ zz.1 (λhm=> ?_) hz₁;obtain ⟨q,hq,e⟩:=List.mem_map.mp hm;exact (zz.2 q hq).1 e
 obtain ⟨o,ho,hc⟩:=st;have hez:e≠z:=λx=>by subst x;rw [hz₂] at ho;cases ho;simp at hc
 refine wpAny_setField_rec hz₂ (by simp) λh₃ _ hs₃=> ?_
 refine wpAny_bind (wpAny_isInstance (T:="StopIteration") (b:=true) ⟨o,hs₃.extBut _ _ hez ho,hc⟩ isSubtype_stop (wpAny_pure ?_));exact hQ h₃ λb o b1 b2 b3 q=>hs₃.extBut _ _ b1 (k₂ b o b2 b3 (k₁ b o b1 q))
theorem ZDK:∀(ls:List Src) (pre:Array Value) (s:Shared) {Q:Array Value->Shared->Prop},(∀sr∈ls,∃xs,sr.val s.heap xs)->
  (∀h',(∀q∈ls.zipIdx s.heap.objs.size,q.1.it h' q.2 0)->h'.objs.size=s.heap.objs.size + ls.length->(∀b o,s.heap.get? b=some o->h'.get? b=some o)->Q (pre++((ls.zipIdx s.heap.objs.size).map λq=>Value.ref q.2).toArray) {s with heap:=h'})->
  wpAny (model prog w) A (forIn (ls.map λsr=>Value.ref sr.adr) pre λx r=>do let v<-holding r.toList (pyIter x);pure (ForInStep.yield (r.push v))) Q E s
 | [],pre,s,Q,hv,h=>by rw [List.map_nil,List.forIn_nil];refine wpAny_pure ?_;have:=h s.heap (λq hq=>by cases hq) rfl (λ_ _ e=>e);simpa using this
 | sr::ls,pre,s,Q,hv,h=>by
  rw [List.map_cons,List.forIn_cons];obtain ⟨xs,hx⟩:=hv sr List.mem_cons_self;refine wpAny_bind (wpAny_bind (wpAny_holding (Src.iter hx (wpAny_pure ?_))));dsimp only;have z1:(s.heap.push {cls:=.type sr.itn,data:=.fields #[.ref sr.adr,.int 0 0]}).objs.size=s.heap.objs.size + 1:=Heap.size_push ..;refine ZDK ls (pre.push (.ref s.heap.objs.size)) {s with heap:=s.heap.push {cls:=.type sr.itn,data:=.fields #[.ref sr.adr,.int 0 0]}} (λsr' hm=> ?_) λh' hi hz kp=> ?_
  ·obtain ⟨ys,hy⟩:=hv sr' (List.mem_cons_of_mem _ hm);exact ⟨ys,hy.at λo e=>Heap.get?_push_of_some _ e⟩
  ·dsimp only at hi hz kp ⊢;rw [z1] at hi hz ⊢;have:=h h' (λq hq=> ?_) (by rw [hz,List.length_cons];lia) (λb o e=>kp b o (Heap.get?_push_of_some _ e))
   ·rw [List.zipIdx_cons,List.map_cons] at this;simpa using this
   ·rw [List.zipIdx_cons] at hq;rcases List.mem_cons.mp hq with rfl | hq
    ·exact ⟨_,kp _ _ (Heap.get?_push_size _ rfl),rfl,rfl⟩
    ·exact hi q hq
theorem ZGw {ls:List Src} {Q:Value->Shared->Prop} (hv:∀sr∈ls,∃xs,sr.val s.heap xs) (hl:ls.length<=1000000)
  (hct:checkTypeCall "zip" ⟨ls.map λsr=>Value.ref sr.adr,[]⟩=pure ()) (hcn:checkBuiltinCall "zip.__new__" ⟨.type "zip"::ls.map λsr=>Value.ref sr.adr,[]⟩=pure ()) (hok:∀obj,argsOk "object.__init__" ⟨obj::ls.map λsr=>Value.ref sr.adr,[]⟩)
  (h:∀h' n,n=s.heap.objs.size + ls.length->IsZip h' (n + 2) n (n + 1) .none->Tp h' n ((ls.zipIdx s.heap.objs.size).map λq=>Value.ref q.2)->Tp h' (n + 1) (ls.map λ_=>Value.none)->(∀q∈ls.zipIdx s.heap.objs.size,q.1.it h' q.2 0)->
   (∀b o,s.heap.get? b=some o->h'.get? b=some o)->Q (.ref (n + 2)) {s with heap:=h'}):
  wpAny (model prog w) A (call (.type "zip") (ls.map λsr=>Value.ref sr.adr)) Q E s:=by
 have g:Meets (Builtin.«zip.__new__» ⟨.type "zip"::ls.map λsr=>Value.ref sr.adr,[]⟩) (λ_ R s=>(∀sr∈ls,∃xs,sr.val s.heap xs)/\
   ∀h' n,n=s.heap.objs.size + ls.length->IsZip h' (n + 2) n (n + 1) .none->Tp h' n ((ls.zipIdx s.heap.objs.size).map λq=>Value.ref q.2)->Tp h' (n + 1) (ls.map λ_=>Value.none)->(∀q∈ls.zipIdx s.heap.objs.size,q.1.it h' q.2 0)->
    (∀b o,s.heap.get? b=some o->h'.get? b=some o)->R (.ok (.ret (.ref (n + 2)))) {s with heap:=h'}):=
  .of_wp λprog w A R s hh=>by
   obtain ⟨hv,hR⟩:=hh;have hsub:=sub_zip;unfold Builtin.«zip.__new__» Builtin.SmallTypes.newClass
   wp_walk
   refine ZDK ls #[] s hv λh1 hi hz kp=>wpAny_pure ?_
   have e1:(#[]++((ls.zipIdx s.heap.objs.size).map λq=>Value.ref q.2).toArray:Array Value).toList=(ls.zipIdx s.heap.objs.size).map λq=>Value.ref q.2:=by simp
   rw [e1];have hlen:((ls.zipIdx s.heap.objs.size).map λq=>Value.ref q.2).length=ls.length:=by simp
   refine wpAny_bind (wpAny_newTuple ?_ (by rw [hlen];exact Nat.le_trans hl size6));refine wpAny_bind (wpAny_newTuple ?_ (by rw [List.length_map,hlen];exact Nat.le_trans hl size6));refine wpAny_bind ?_;unfold Builtin.SmallTypes.newRecord;dsimp only;refine wpAny_newObj_type (wpAny_pure ⟨_,rfl,?_⟩) (by simp [sizeOk,Builtin.SmallTypes.ownedTupleFields,sizeLine_eq]);generalize e2:s.heap.objs.size + ls.length=n at *
   have e3:((ls.zipIdx s.heap.objs.size).map λq=>Value.ref q.2).map (λ_=>Value.none)=ls.map λ_=>Value.none:=by refine List.ext_getElem (by simp) λi h1 h2=>by simp
   dsimp only;rw [e3];generalize ((ls.zipIdx s.heap.objs.size).map λq=>Value.ref q.2)=us at *;generalize (ls.map λ_=>Value.none)=ns at *;have s1:(h1.push {cls:=.type "tuple",data:=.seq us.toArray}).objs.size=n + 1:=by rw [Heap.size_push,hz]
   have s2:((h1.push {cls:=.type "tuple",data:=.seq us.toArray}).push {cls:=.type "tuple",data:=.seq ns.toArray}).objs.size=n + 2:=by rw [Heap.size_push,s1]
   show R (.ok (.ret (.ref ((h1.push {cls:=.type "tuple",data:=.seq us.toArray}).push {cls:=.type "tuple",data:=.seq ns.toArray}).objs.size))) _;rw [s2];refine hR _ n rfl ?_ (Heap.get?_push_of_some _ (Heap.get?_push_of_some _ (by rw [<-hz];exact Heap.get?_push_size _ rfl))) (Heap.get?_push_of_some _ (by rw [<-s1];exact Heap.get?_push_size _ rfl)) (λq hq=>(hi q hq).at λo e=>Heap.get?_push_of_some _ (Heap.get?_push_of_some _ (Heap.get?_push_of_some _ e))) λb o e=>Heap.get?_push_of_some _ (Heap.get?_push_of_some _ (Heap.get?_push_of_some _ (kp b o e)))
   have:=Heap.get?_push_size ((h1.push {cls:=.type "tuple",data:=.seq us.toArray}).push {cls:=.type "tuple",data:=.seq ns.toArray}) (o:={cls:=.type "zip",data:=.fields #[.none,.bool false,.bool false,.ref h1.objs.size,.ref (h1.push {cls:=.type "tuple",data:=.seq us.toArray}).objs.size]}) rfl;rw [s2] at this;rw [hz,s1] at this;show _=_;rw [hz,s1];exact this
 refine callType_new PySem.F.called_zip (by decide) hct hcn hok PySem.F.entry_zip_new g ⟨hv,λh' n hn hz hTI hTO hi kp=>⟨⟨_,hz,rfl⟩,h h' n hn hz hTI hTO hi kp⟩⟩
end
end DL
namespace DL
open PySem PySem.W PyProof.Rows
section
noncomputable def Hu (lt:Nat->Nat->Bool) {α:Type}:KasT α->α
 | .ret a=>a
 | .ask i j k=>Hu lt (k (lt i j))
variable {lt:Nat->Nat->Bool}
noncomputable abbrev pt (p:Array Nat) (j:Nat):Nat:=p.getD j 0
end
end DL
namespace DL
open PySem PySem.Spec L2
open PyProof.Rows hiding St
variable {pins:List (Addr×Obj)} {σ:St} {H:Hp} {s:Shared} {w:World} {K:PySem.W.Frag} {elts:List Expr} {i:Nat} {a:Wd} {ta:DA}
section
variable {X:Cx} {pins:List (Addr×Obj)} {σ:St} {H:Hp} {s:Shared} {h':Heap}
theorem Wx {t':Nat} {fp:List Addr} (I:Inv X pins σ H s) (k:∀b o,b ∉ fp->s.heap.get? b=some o->h'.get? b=some o) (hf:∀b∈fp,FpOk X pins H b):Inv X pins σ H {s with heap:=h',toks:=t'}:=by
 have nit:∀b u,H b=some u->b ∉ fp:=λb u e z=>by rw [(hf b z).1] at e;cases e
 refine I.step (g':=s.gens) (d':=s.drawn) (ch:=fp) (λb hb=> ?_) (λb o _ _ hc e _=>k b o hc e) (λb o _ _ hc e _=>⟨o.slots,k b o hc e⟩) (λ_ _ _ _ n=>n)
  (λb o hc e=>⟨o,k b o hc e⟩) (λ_ _ e=>e) (λ_ _ _ e=>e) (λb ps e=>⟨#[],by rw [e];simp⟩) (λm hm=> ?_) (λb u e=> ?_) I.bare
 ·obtain ⟨f0,f1,f2,f3,f4,f5⟩:=hf b hb;exact ⟨f3,f1,f4,f5⟩
 ·obtain ⟨o,es,ep,ho,r⟩:=hm;exact ⟨o,es,ep,k _ o (λz=>(hf _ z).2.1 rfl) ho,r⟩
 ·refine (I.hok b u e).stay (λc v hc q=>k c v ?_ q) (λ_ q=>q) λ_ _ q=>q
  rcases hc with z | z
  ·rw [z];exact nit b u e
  ·exact nit c _ z
theorem ZA5 {t':Nat} {fp:List Addr} {p:Addr} {xs:List V} {its:List Value} (I:Inv X pins σ H s) (k:∀b o,b ∉ fp->s.heap.get? b=some o->h'.get? b=some o) (hf:∀b∈fp,FpOk X pins H b) (hp:s.heap.objs.size<=p)
  (hz:xs.length<=sizeLine) (r:Vals xs its) (ht:Tp h' p its):Inv X pins σ (upd H p (.tup xs)) {s with heap:=h',toks:=t'}:=by
 obtain ⟨g0,g1,g2,g3,g4,g5⟩:=I.Hy (H':=H) hp (I.hok.fresh hp);exact Zx (Wx I k hf) g0 (Nat.le_trans I.sz hp) g1 g4 g5 ⟨hz,its,r,_,ht,rfl,_,rfl⟩
end
noncomputable def Src.sq (K:PySem.W.Frag) (H:Hp) (xs:List V):Src->Prop
 | .l a=>SqL K H a xs
 | .t a=>SqT K H a xs
variable {sr:Src} {ls:List Src}
theorem Src.sq.val {X:Cx} {xs:List V} (I:Inv X pins σ H s) (h:sr.sq X.K H xs):∃its:List Value,Vals xs its/\sr.val s.heap its.toArray/\xs.length<=sizeLine:=by
 cases sr with
 | l a=>obtain ⟨its,r,p,hz⟩:=I.list h;exact ⟨its,r,p.isList,hz⟩
 | t a=>obtain ⟨its,r,p,hz⟩:=I.tuple h;exact ⟨its,r,p,hz⟩
theorem Src.sq.inj {X:Cx} {xs ys:List V} (I:Inv X pins σ H s) (h:sr.sq X.K H xs) (h':sr.sq X.K H ys):xs=ys:=by
 cases sr with
 | l a=>exact I.Xf h h'
 | t a=>exact I.Xz h h'
noncomputable def Ite (K:PySem.W.Frag) (sr:Src) (n:Int):It:=
 ⟨λi H=>∃xs x,sr.sq K H xs/\xs[i]? =some x,λi H v H'=>∃p x,v=.ref p/\H p=none/\H'=upd H p (.tup [.int (n + i),x])/\∀xs,sr.sq K H xs->xs[i]? =some x,λi H=>∃xs,sr.sq K H xs/\xs.length<=i⟩
theorem ZFj {P:Program} {x1} {pos:Pos} (sr:Src) (n:Int) (e it:Addr) (hne:e≠it):
  Turn P w K (.Tuple elts x1 pos) (Ite K sr n) [e,it] e (λi h=>∃g old,En h e it .none (n + i) g old/\Gv (n + i) g/\sr.it h it i) where
 mem:=by simp
 obj:=λi h st b hb=>by
  obtain ⟨g,old,he,_,o,ho,_,hd⟩:=st;rcases (show b=e∨b=it by simpa using hb) with rfl | rfl
  ·exact ⟨_,he,λv z=>by cases z⟩
  ·exact ⟨o,ho,λv z=>by rw [hd] at z;cases z⟩
 keep:=λi h h' st k=>by obtain ⟨g,old,he,hg,hi⟩:=st;exact ⟨g,old,k e (by simp) _ he,hg,hi.at λo q=>k it (by simp) o q⟩
 item:=by
  intro X hP hw hK hc i pins s σ H E I hf st hg;subst hP hw hK;obtain ⟨xs,x,hq,hx⟩:=hg;obtain ⟨its,rv,hv,hz⟩:=Src.sq.val I hq;obtain ⟨u,hu,ru⟩:=rv.get hx;obtain ⟨g,old,he,hgv,hi⟩:=st;refine ZJQ he hgv hi hv (x:=u) (by simpa using hu) hne λh1 t tk e1 i1 t1 z1 k1=>⟨_,rfl,?_⟩
  refine ZGQ (s:={s with heap:=h1,toks:=tk}) e1 λh2 e2 sb=> ?_
  have hpe:s.heap.objs.size≠e:=Nat.ne_of_gt (Heap.lt_size he);have I2:Inv X pins σ (upd H s.heap.objs.size (.tup [.int (n + i),x])) {s with heap:=h2,toks:=tk}:=
   ZA5 (fp:= [e,it]) (its:= [.int (n + i) t,u]) I (λb o hb q=>by
    have hb':b≠e/\b≠it:=by simpa using hb
    exact sb.extBut b o hb'.1 (k1 b o hb'.1 hb'.2 q)) hf (Nat.le_refl _) (by show 2<=sizeLine;decide) (.cons ⟨t,rfl⟩ (.cons ru .nil)) (sb.extBut _ _ hpe t1)
  have hfr:H s.heap.objs.size=none:=I.hok.fresh (Nat.le_refl _);refine ⟨.ref s.heap.objs.size,_,I2,rfl,⟨_,x,rfl,hfr,rfl,λys hy=>by rw [Src.sq.inj I hy hq];exact hx⟩,⟨.none,u,?_,.inl rfl,i1.at λo q=>sb.extBut _ _ (Ne.symm hne) q⟩,λb hb=> ?_⟩
  ·have ee:n + (i:Int) + 1=n + ((i + 1:Nat):Int):=by lia
   rw [<-ee];exact e2
  ·have hb':b=e∨b=it:=by simpa using hb
   rw [Ao (λz=> ?_)]
   ·exact (hf b hb).1
   ·rcases hb' with rfl | rfl
    ·exact hpe z.symm
    ·have hlt:=Src.it.lt hi;rw [z] at hlt;exact Nat.lt_irrefl _ hlt
 done:=by
  intro X hP hw hK hc i pins s σ H E I hf st hg;subst hP hw hK;obtain ⟨xs,hq,hx⟩:=hg;obtain ⟨its,rv,hv,hz⟩:=Src.sq.val I hq;obtain ⟨g,old,he,hgv,hi⟩:=st;have hl:=rv.length;refine ZKd (I.ok.hd hc) he hi hv (by simp;lia) λh1 xb=>⟨rfl,?_⟩
  exact Wx (t':=s.toks) (fp:= [e,it]) I (λb o hb q=>xb b o (λz=>hb (by simp [z])) q) hf
 self:=λ_ _ _ _ _ st h=>by obtain ⟨g,old,he,_⟩:=st;exact ZBN he h
section
variable {X:Cx} {E:XK}
theorem ZKO {prog:Program} {A:Around} {E:Value->Shared->Prop} {xs:Array Value} {Q:Value->Shared->Prop} (hv:sr.val s.heap xs)
  (h:∀h',En h' (s.heap.objs.size + 1) s.heap.objs.size .none 0 .none .none->sr.it h' s.heap.objs.size 0->(∀b o,s.heap.get? b=some o->h'.get? b=some o)->Q (.ref (s.heap.objs.size + 1)) {s with heap:=h'}):
  wpAny (model prog w) A (call (.type "enumerate") [.ref sr.adr]) Q E s:=by
 have g:Meets (Builtin.«enumerate.__new__» ⟨[.type "enumerate",.ref sr.adr],[]⟩) (λ_ R s=>sr.val s.heap xs/\
   R (.ok (.ret (.ref (s.heap.push {cls:=.type sr.itn,data:=.fields #[.ref sr.adr,.int 0 0]}).objs.size)))
    {s with heap:=(s.heap.push {cls:=.type sr.itn,data:=.fields #[.ref sr.adr,.int 0 0]}).push {cls:=.type "enumerate",data:=.fields #[.none,.bool false,.ref s.heap.objs.size,rawInt 0,.none,.none]}}):=
  .of_wp λprog w A R s h=>by
   obtain ⟨hp,g,d,tk,os⟩:=s;obtain ⟨hl,h⟩:=h;have hsub:=sub_enumerate;have hL:sr.val (Shared.heap ⟨hp,g,d,tk,os⟩) xs:=hl
   wp_walk
   refine wpAny_stack_any λst=>wpAny_pure ?_
   split
   ·rename_i c _ _ _ _ _
    cases (c == Value.type "enumerate") <;> (wp_walk using Src.iter hL;exact ⟨_,rfl,h⟩)
   ·wp_walk using Src.iter hL
    exact ⟨_,rfl,h⟩
 refine callType_new PySem.F.called_enumerate (by decide) (PySem.F.typeCall_enumerate_1 _) (PySem.F.newCall_enumerate_1 _) (λobj=>PySem.F.args_object_init_2 obj _) PySem.F.entry_enumerate_new g ⟨hv,?_⟩;have hz:(s.heap.push {cls:=.type sr.itn,data:=.fields #[.ref sr.adr,.int 0 0]}).objs.size=s.heap.objs.size + 1:=Heap.size_push ..;show _/\_;rw [hz];have he:En ((s.heap.push {cls:=.type sr.itn,data:=.fields #[.ref sr.adr,.int 0 0]}).push {cls:=.type "enumerate",data:=.fields #[.none,.bool false,.ref s.heap.objs.size,rawInt 0,.none,.none]}) (s.heap.objs.size + 1) s.heap.objs.size .none 0 .none .none:=by
  have:=Heap.get?_push_size (s.heap.push {cls:=.type sr.itn,data:=.fields #[.ref sr.adr,.int 0 0]}) (o:={cls:=.type "enumerate",data:=.fields #[.none,.bool false,.ref s.heap.objs.size,rawInt 0,.none,.none]}) rfl;rw [hz] at this;exact this
 exact ⟨⟨_,he,rfl⟩,h _ he ⟨_,Heap.get?_push_of_some _ (Heap.get?_push_size _ rfl),rfl,rfl⟩ λb o x=>Heap.get?_push_of_some _ (Heap.get?_push_of_some _ x)⟩
noncomputable def ZIa (K:PySem.W.Frag) (ta:TA):TI:=λσ H R=>ta σ H λvs H1=>∃sr xs,vs= [.ref (Src.adr sr)]/\sr.sq K H1 xs/\R (Ite K sr 0) H1
theorem ZGj {elts:List Expr} {x1} {tp:Pos} {a:Expr} {ta:TA} {p pos:Pos} (hg:Gl X "enumerate") (hm:X.mg "enumerate"=none) (ha:PA X [a] ta) (hs:starEach [a] X.env= [(false,eval a X.env)]:=by rfl):PI X (.Tuple elts x1 tp) (.Call (.Name "enumerate" p) [a] [] pos) (ZIa X.K ta):=by
 intro pins s σ H R I h;refine Call_ (Ij I hg hm PyProof.Rows.boot_enumerate (PyProof.Rows.callWith_type1 (thn (ha pos pins s σ H _ I h) λus s1 ⟨vs,H1,I1,r1,q1⟩=> ?_) hs rfl));obtain ⟨sr,xs,e,hq,q⟩:=q1;subst e;cases r1 with
 | cons r rr=>
  cases rr;cases r;obtain ⟨its,rv,hv,hz⟩:=Src.sq.val I1 hq;refine ZKO hv λh' he hi kp=> ?_
  refine ZBN he ?_;have I2:Inv X pins σ H1 {s1 with heap:=h'}:=I1.kept (t':=s1.toks) kp;refine ⟨s1.heap.objs.size + 1,[s1.heap.objs.size + 1,s1.heap.objs.size],_,_,H1,rfl,I2,ZFj sr 0 _ _ (Nat.succ_ne_self _),⟨.none,.none,by simpa using he,.inl rfl,hi⟩,λb hb=> ?_,q⟩;have hb':b=s1.heap.objs.size + 1∨b=s1.heap.objs.size:=by simpa using hb
  have hle:s1.heap.objs.size<=b:=by rcases hb' with rfl | rfl <;> lia
  exact I1.Hy hle (I1.hok.fresh hle)
end
inductive DrV (K:PySem.W.Frag) (H:Hp) (i:Nat):List Src->List V->Prop where
 | nil:DrV K H i [] []
 | cons {sr r v us xs} (hq:Src.sq K H xs sr) (hx:xs[i]? =some v) (t:DrV K H i r us):DrV K H i (sr::r) (v::us)
inductive StV (K:PySem.W.Frag) (H:Hp) (i:Nat):List Src->Prop where
 | here {sr r xs} (hq:Src.sq K H xs sr) (hx:xs.length<=i):StV K H i (sr::r)
 | there {sr r v xs} (hq:Src.sq K H xs sr) (hx:xs[i]? =some v) (t:StV K H i r):StV K H i (sr::r)
noncomputable def Itz (K:PySem.W.Frag) (ls:List Src):It:=
 ⟨λi H=>∃us,DrV K H i ls us,λi H v H'=>∃p us,v=.ref p/\H p=none/\H'=upd H p (.tup us)/\∀us',DrV K H i ls us'->us'=us,λi H=>StV K H i ls⟩
theorem DrV.length {us:List V} (d:DrV K H i ls us):us.length=ls.length:=by
 induction d with
 | nil=>rfl
 | cons _ _ _ ih=>simp [ih]
section
variable {X:Cx} {pins:List (Addr×Obj)} {σ:St} {H:Hp} {s:Shared}
theorem DrV.inj (I:Inv X pins σ H s) :∀{ls:List Src} {us us':List V},DrV X.K H i ls us->DrV X.K H i ls us'->us=us'
 | [],_,_,d,d'=>by cases d;cases d';rfl
 | sr::ls,_,_,d,d'=>by
  cases d with
  | cons hq hx t=>
   cases d' with
   | cons hq' hx' t'=>
    have e:=Src.sq.inj I hq hq';subst e;rw [hx] at hx';cases hx';rw [DrV.inj I t t']
theorem DrV.drw (I:Inv X pins σ H s) :∀{l:List (Src×Addr)} {us:List V},DrV X.K H i (l.map (·.1)) us->(∀q∈l,q.1.it s.heap q.2 i)->∃ws,Drw s.heap i l ws/\Vals us ws
 | [],us,d,h=>by cases d;exact ⟨[],.nil,.nil⟩
 | (sr,p)::l,us,d,h=>by
  cases d with
  | cons hq hx t=>
   obtain ⟨its,rv,hv,hz⟩:=Src.sq.val I hq;obtain ⟨u,hu,ru⟩:=rv.get hx;obtain ⟨ws,d',r'⟩:=DrV.drw I t λq hq=>h q (List.mem_cons_of_mem _ hq)
   exact ⟨u::ws,.cons (h (sr,p) List.mem_cons_self) hv (by simpa using hu) d',.cons ru r'⟩
theorem StV.drw (I:Inv X pins σ H s) :∀{l:List (Src×Addr)},StV X.K H i (l.map (·.1))->(∀q∈l,q.1.it s.heap q.2 i)->DrwE s.heap i l
 | [],d,h=>by cases d
 | (sr,p)::l,d,h=>by
  cases d with
  | here hq hx=>
   obtain ⟨its,rv,hv,hz⟩:=Src.sq.val I hq;have hl:=rv.length;exact .here (h (sr,p) List.mem_cons_self) hv (by simp;lia)
  | there hq hx t=>
   obtain ⟨its,rv,hv,hz⟩:=Src.sq.val I hq;obtain ⟨u,hu,ru⟩:=rv.get hx;exact .there (h (sr,p) List.mem_cons_self) hv (by simpa using hu) (StV.drw I t λq hq=>h q (List.mem_cons_of_mem _ hq))
end
theorem ZE9 {P:Program} {x1} {pos:Pos} (l:List (Src×Addr)) (z TI TO:Addr) (a:ApZ TO l) (zz:z≠TO/\(∀q∈l,q.2≠z/\q.1.adr≠z)) (tt:TI≠z/\TI≠TO/\∀q∈l,q.2≠TI) (hsz:l.length<=1000000) (hne:l≠ []):
  Turn P w K (.Tuple elts x1 pos) (Itz K (l.map (·.1))) (z::TI::TO::l.map (·.2)) z
   (λi h=>IsZip h z TI TO .none/\Tp h TI (l.map λq=>Value.ref q.2)/\(∃os,Tp h TO os/\os.length=l.length)/\∀q∈l,q.1.it h q.2 i) where
 mem:=by simp
 obj:=λi h st b hb=>by
  obtain ⟨hz,hTI,⟨os,hTO,_⟩,hi⟩:=st;rcases List.mem_cons.mp hb with rfl | hb
  ·exact ⟨_,hz,λv z=>by cases z⟩
  ·rcases List.mem_cons.mp hb with rfl | hb
   ·exact ⟨_,hTI,λv z=>by cases z⟩
   ·rcases List.mem_cons.mp hb with rfl | hb
    ·exact ⟨_,hTO,λv z=>by cases z⟩
    ·obtain ⟨q,hq,rfl⟩:=List.mem_map.mp hb;obtain ⟨o,ho,_,hd⟩:=hi q hq;exact ⟨o,ho,λv z=>by rw [hd] at z;cases z⟩
 keep:=λi h h' st k=>by obtain ⟨hz,hTI,⟨os,hTO,ho⟩,hi⟩:=st;exact ⟨k z (by simp) _ hz,k TI (by simp) _ hTI,⟨os,k TO (by simp) _ hTO,ho⟩,λq hq=>(hi q hq).at λo e=>k q.2 (by simp only [List.mem_cons];exact .inr (.inr (.inr (List.mem_map.mpr ⟨q,hq,rfl⟩)))) o e⟩
 item:=by
  intro X hP hw hK hc i pins s σ H E I hf st hg;subst hP hw hK;obtain ⟨us,dv⟩:=hg;obtain ⟨hz,hTI,⟨os,hTO,ho⟩,hi⟩:=st;obtain ⟨ws,dw,rv⟩:=DrV.drw I dv hi;refine ZEJ hz hTI hTO ho hsz hne a zz dw λh1 z1 t1 i1 p1 s1 k1=>⟨_,rfl,?_⟩
  refine wpAny_letOwnedTupleGo_zip (s:={s with heap:=h1}) z1 λh2 z2 sb=> ?_
  have hpz:s.heap.objs.size≠z:=Nat.ne_of_gt (Heap.lt_size hz);have hul:us.length<=sizeLine:=by rw [dv.length,List.length_map];exact Nat.le_trans hsz size6
  have I2:Inv X pins σ (upd H s.heap.objs.size (.tup us)) {s with heap:=h2}:=
   ZA5 (t':=s.toks) (fp:=z::TI::TO::l.map (·.2)) (its:=ws) I (λb o hb q=>by simp only [List.mem_cons,not_or] at hb;exact sb.extBut b o hb.1 (k1 b o hb.1 hb.2.2.1 hb.2.2.2 q)) hf (Nat.le_refl _) hul rv (sb.extBut _ _ hpz p1)
  have hfr:H s.heap.objs.size=none:=I.hok.fresh (Nat.le_refl _)
  have up:∀b o,b≠z->b≠TO->b ∉ l.map (·.2)->s.heap.get? b=some o->h2.get? b=some o:=λb o b1 b2 b3 q=>sb.extBut b o b1 (k1 b o b1 b2 b3 q)
  refine ⟨.ref s.heap.objs.size,_,I2,rfl,⟨_,us,rfl,hfr,rfl,λus' d'=>DrV.inj I d' dv⟩,⟨z2,up TI _ tt.1 tt.2.1 (λhm=> ?_) hTI,⟨ws,sb.extBut _ _ (Ne.symm zz.1) t1,dw.length⟩,λq hq=>(i1 q hq).at λo e=>sb.extBut _ _ (zz.2 q hq).1 e⟩,λb hb=> ?_⟩
  ·obtain ⟨q,hq,e⟩:=List.mem_map.mp hm;exact tt.2.2 q hq e
  ·rw [Ao (λe=> ?_)]
   ·exact (hf b hb).1
   ·have lt:b < s.heap.objs.size:=by
     rcases List.mem_cons.mp hb with rfl | hb
     ·exact Heap.lt_size hz
     ·rcases List.mem_cons.mp hb with rfl | hb
      ·exact Heap.lt_size hTI
      ·rcases List.mem_cons.mp hb with rfl | hb
       ·exact Heap.lt_size hTO
       ·obtain ⟨q,hq,rfl⟩:=List.mem_map.mp hb;exact (hi q hq).lt
    rw [e] at lt;exact Nat.lt_irrefl _ lt
 done:=by
  intro X hP hw hK hc i pins s σ H E I hf st hg;subst hP hw hK;obtain ⟨hz,hTI,⟨os,hTO,ho⟩,hi⟩:=st;have dw:=StV.drw I hg hi;refine ZKY (I.ok.hd hc) hz hTI hTO ho hsz hne a zz dw λh1 k1=>⟨rfl,?_⟩
  exact Wx (t':=s.toks) (fp:=z::TI::TO::l.map (·.2)) I (λb o hb q=>by simp only [List.mem_cons,not_or] at hb;exact k1 b o hb.1 hb.2.2.1 hb.2.2.2 q) hf
 self:=λ_ _ _ _ _ st h=>wpAny_pyIter_zip st.1 h
noncomputable def Hi (G:DH) (j:Nat):List D->Option (Option (List D))
 | []=>some (some [])
 | d::r=>match Br d G with
  | none=>none
  | some xs=>match xs[j]? with
   | none=>some none
   | some x=>match Hi G j r with
    | some (some ys)=>some (some (x::ys))
    | o=>o
noncomputable def Ik (ds:List D) (j:Nat) (G:DH):Option (Option D):=(Hi G j ds).map λo=>o.map D.tup
noncomputable def lenOf (G:DH) (d:D):Nat:=match Br d G with
 | some xs=>xs.length
 | none=>0
noncomputable def Oi (G:DH) (d:D):Bool:=(Br d G).isSome
noncomputable def Hv (n:Int) (d:D) (j:Nat) (G:DH):Option (Option D):=match Br d G with
 | none=>none
 | some xs=>some (xs[j]?.map λx=>.tup [.int (n + j),x])
noncomputable def Py (ds:List D) (G:DH):R ItD:=match ds with
 | [d]=>if Oi G d=true then .ok (.fn (lenOf G d) (Hv 0 d)) G else .bad
 | _=>.bad
noncomputable def Lf (n:Nat) (ds:List D) (G:DH):R ItD:=if ds.all (Oi G)=true/\ds.length=n then .ok (.fn (lenOf G (ds.headD .non)) (Ik ds)) G else .bad
section
variable {X:Cx} {E:XK}
theorem ZBb {G:DH} {d:D} {v:V} {xs:List D} (s:Sim a G) (r:Rep a d v) (h:Br d G=some xs):
  ∃sr:Src,v=.ref sr.adr/\(∃vs,sr.sq a.K a.H vs)/\∀b:Wd,Ext a b->∀G',Sim b G'->∀ys,Br d G'=some ys->∃us,sr.sq b.K b.H us/\Reps b ys us:=by
 cases d with
 | tup ds=>
  obtain ⟨p,vs,rfl,hq,rv⟩:=r;refine ⟨.t p,rfl,⟨vs,hq⟩,λb x G' s' ys hy=> ?_⟩
  cases (show some ds=some ys from hy)
  exact ⟨vs,x.sqT hq,rv.mono x⟩
 | fl ds=>
  obtain ⟨p,vs,rfl,hq,rv⟩:=r;refine ⟨.l p,rfl,⟨vs,hq.sq⟩,λb x G' s' ys hy=> ?_⟩
  cases (show some ds=some ys from hy)
  exact ⟨vs,(x.fzL hq).sq,rv.mono x⟩
 | ref i=>
  obtain ⟨hi,rfl⟩:=r;have hx:∃zs,G[i]? =some (.lst zs):=by
   unfold Br at h;dsimp only at h;split at h
   ·rename_i zs hz;exact ⟨zs,hz⟩
   ·cases h
  obtain ⟨zs,hz⟩:=hx;obtain ⟨vs,e1,_⟩:=s.lst hz;refine ⟨.l (a.m i),rfl,⟨vs,.of e1⟩,λb x G' s' ys hy=> ?_⟩;unfold Br at hy;dsimp only at hy;split at hy
  ·rename_i zs' hz';cases hy;obtain ⟨us,e2,r2⟩:=s'.lst hz';rw [x.m i hi] at e2;exact ⟨us,.of e2,r2⟩
  ·cases hy
 | _=>cases h
theorem ZHB {G:DH} {d:D} {v:V} (hk:a.K=X.K) (rd:∀b:Wd,Ext a b->∀G',Sim b G'->∀ys,Br d G'=some ys->∃us,sr.sq b.K b.H us/\Reps b ys us) (n:Nat):RepI a (.fn n (Hv 0 d)) (Ite X.K sr 0):=by
 intro b x G' s' i;have kb:b.K=X.K:=x.k.trans hk;constructor
 ·intro e he;unfold Hv at he;split at he
  ·cases he
  ·rename_i ys hy;obtain ⟨us,hq,ru⟩:=rd b x G' s' ys hy;rw [kb] at hq;cases hyi:ys[i]? with
   | none=>rw [hyi] at he;cases he
   | some y=>
    rw [hyi] at he;have he':D.tup [.int (0 + i),y]=e:=by simpa using he
    subst he';obtain ⟨u,hu,rx⟩:=ru.get hyi;refine ⟨⟨us,u,hq,hu⟩,?_⟩;rintro w H' ⟨p,u',rfl,hp,rfl,hu'⟩;refine ⟨b.put p (.tup [.int (0 + i),u']),rfl,Ext.put hp,s'.put hp,p,_,rfl,.of Dt,?_⟩;have e1:=hu' us hq;rw [hu] at e1;cases e1;exact ⟨_,_,rfl,rfl,Reps.cons (rx.mono (Ext.put hp)) rfl⟩
 ·intro he;unfold Hv at he;split at he
  ·cases he
  ·rename_i ys hy;obtain ⟨us,hq,ru⟩:=rd b x G' s' ys hy;rw [kb] at hq;cases hyi:ys[i]? with
   | none=>exact ⟨us,hq,by rw [<-ru.length];exact List.getElem?_eq_none_iff.mp hyi⟩
   | some y=>rw [hyi] at he;cases he
theorem ZJw {elts:List Expr} {x1} {tp:Pos} {e:Expr} {p pos:Pos} (hg:Gl X "enumerate") (hm:X.mg "enumerate"=none) (ha:QA X E [e] ta) (hs:starEach [e] X.env= [(false,eval e X.env)]:=by rfl):
  QI X E (.Tuple elts x1 tp) (.Call (.Name "enumerate" p) [e] [] pos) (Do Py ta):=(ZGj hg hm ha hs).mono λσ H Q h=>by
 obtain ⟨a,S,G,hk,rfl,s,r,h⟩:=h;refine ⟨a,S,G,hk,rfl,s,r,(Qw h).imp ?_⟩;rintro vs _ ⟨b,ds,G1,rfl,x,s1,q,-,h1⟩;unfold Py at h1;split at h1
 ·rename_i d;split at h1
  ·rename_i hok;obtain ⟨v,r,e1,q1,q2⟩:=q
   cases (show r= [] from q2)
   subst e1
   obtain ⟨xs,hx⟩:=Option.isSome_iff_exists.mp (show (Br d G1).isSome=true from hok)
   obtain ⟨sr,rfl,⟨us,hq⟩,rd⟩:=ZBb s1 q1 hx;have kb:b.K=X.K:=x.k.trans hk;exact ⟨sr,us,rfl,by rw [<-kb];exact hq,h1 b _ (Ext.refl b) s1 (ZHB (G:=G1) (v:=.non) kb rd _)⟩
  ·exact h1.elim
 ·exact h1.elim
theorem ZDr {G:DH} (s:Sim a G):∀{ds:List D} {vs:List V},Reps a ds vs->ds.all (Oi G)=true->∃ls:List Src,vs=ls.map (λsr=>V.ref sr.adr)/\(∀sr∈ls,∃us,sr.sq a.K a.H us)/\
   ∀b:Wd,Ext a b->∀G',Sim b G'->∀i,(∀ys,Hi G' i ds=some (some ys)->∃us,DrV b.K b.H i ls us/\Reps b ys us)/\(Hi G' i ds=some none->StV b.K b.H i ls)
 | [],vs,r,_=>by
  cases (show vs= [] from r)
  refine ⟨[],rfl,(λ_ h=>nomatch h),λb x G' s' i=>⟨λys h=> ?_,λh=> ?_⟩⟩
  ·cases h;exact ⟨[],.nil,rfl⟩
  ·cases h
 | d::ds,vs,r,h=>by
  rw [List.all_cons,Bool.and_eq_true] at h;obtain ⟨v,vr,rfl,q1,q2⟩:=r
  obtain ⟨xs,hx⟩:=Option.isSome_iff_exists.mp (show (Br d G).isSome=true from h.1)
  obtain ⟨sr,rfl,hq,rd⟩:=ZBb s q1 hx;obtain ⟨ls,rfl,hqs,rds⟩:=ZDr s q2 h.2;refine ⟨sr::ls,rfl,λsr' hm=> ?_,λb x G' s' i=>⟨λys hy=> ?_,λhy=> ?_⟩⟩
  ·rcases List.mem_cons.mp hm with rfl | hm
   ·exact hq
   ·exact hqs sr' hm
  ·unfold Hi at hy;split at hy
   ·cases hy
   ·rename_i zs hz;obtain ⟨us,hu,ru⟩:=rd b x G' s' zs hz;split at hy
    ·cases hy
    ·rename_i y hyi;obtain ⟨u,hui,rx⟩:=ru.get hyi;split at hy
     ·rename_i ys' hys;cases hy;obtain ⟨us',d',r'⟩:=(rds b x G' s' i).1 ys' hys;exact ⟨u::us',.cons hu hui d',Reps.cons rx r'⟩
     ·rename_i hno;exact absurd hy (hno _)
  ·unfold Hi at hy;split at hy
   ·cases hy
   ·rename_i zs hz;obtain ⟨us,hu,ru⟩:=rd b x G' s' zs hz;split at hy
    ·rename_i hyi;exact .here hu (by rw [<-ru.length];exact List.getElem?_eq_none_iff.mp hyi)
    ·rename_i y hyi;obtain ⟨u,hui,rx⟩:=ru.get hyi;split at hy
     ·cases hy
     ·exact .there hu hui ((rds b x G' s' i).2 hy)
theorem ZKx {ds:List D} (hk:a.K=X.K) (rd:∀b:Wd,Ext a b->∀G',Sim b G'->∀i,(∀ys,Hi G' i ds=some (some ys)->∃us,DrV b.K b.H i ls us/\Reps b ys us)/\(Hi G' i ds=some none->StV b.K b.H i ls)) (n:Nat):
  RepI a (.fn n (Ik ds)) (Itz X.K ls):=by
 intro b x G' s' i;have kb:b.K=X.K:=x.k.trans hk;constructor
 ·intro e he;unfold Ik at he;cases hz:Hi G' i ds with
  | none=>rw [hz] at he;cases he
  | some o=>
   cases o with
   | none=>rw [hz] at he;cases he
   | some ys=>
    rw [hz] at he;have he':D.tup ys=e:=by simpa using he
    subst he';obtain ⟨us,d,ru⟩:=(rd b x G' s' i).1 ys hz;rw [kb] at d;refine ⟨⟨us,d⟩,?_⟩;rintro w H' ⟨p,us',rfl,hp,rfl,hu'⟩;cases hu' us d;exact ⟨b.put p (.tup us),rfl,Ext.put hp,s'.put hp,p,us,rfl,.of Dt,ru.mono (Ext.put hp)⟩
 ·intro he;unfold Ik at he;cases hz:Hi G' i ds with
  | none=>rw [hz] at he;cases he
  | some o=>
   cases o with
   | none=>
    have:=(rd b x G' s' i).2 hz;rw [kb] at this;exact this
   | some ys=>rw [hz] at he;cases he
noncomputable def iZip (n:Nat) (K:PySem.W.Frag) (ta:TA):TI:=λσ H R=>ta σ H λvs H1=>∃ls:List Src,vs=ls.map (λsr=>V.ref sr.adr)/\(∀sr∈ls,∃us,sr.sq K H1 us)/\ls.length=n/\R (Itz K ls) H1
theorem ZC9:∀{ls:List Src} {us:List Value},Vals (ls.map λsr=>V.ref sr.adr) us->us=ls.map λsr=>Value.ref sr.adr
 | [],us,h=>by cases h;rfl
 | sr::ls,us,h=>by
  rw [List.map_cons] at h;cases h with
  | cons r rr=>
   cases r;rw [ZC9 rr]
   rfl
theorem W2 {n:Nat} {q:Src×Nat} (h:q∈ls.zipIdx n):q.1∈ls/\n<=q.2/\q.2 < n + ls.length:=by obtain ⟨i,hi,rfl⟩:=List.getElem_of_mem h;simp only [List.length_zipIdx] at hi;simp only [List.getElem_zipIdx];exact ⟨List.getElem_mem hi,by lia,by lia⟩
theorem ZFn {x1} {tp:Pos} {R:It->Hp->Prop} (I:Inv X pins σ H s) (hq:∀sr∈ls,∃us,sr.sq X.K H us) (hne:ls≠ []) (hl:ls.length<=1000000)
  (hct:checkTypeCall "zip" ⟨ls.map λsr=>Value.ref sr.adr,[]⟩=pure ()) (hcn:checkBuiltinCall "zip.__new__" ⟨.type "zip"::ls.map λsr=>Value.ref sr.adr,[]⟩=pure ()) (hok:∀obj,argsOk "object.__init__" ⟨obj::ls.map λsr=>Value.ref sr.adr,[]⟩)
  (q:R (Itz X.K ls) H):wpAny (model X.prog X.w) X.A (call (.type "zip") (ls.map λsr=>Value.ref sr.adr)) (λv s1=>wpAny (model X.prog X.w) X.A (pyIter v) (PIE X pins σ (.Tuple elts x1 tp) R) X.xe s1) X.xe s:=by
 have hv:∀sr∈ls,∃xs,sr.val s.heap xs:=λsr hm=>by obtain ⟨us,h⟩:=hq sr hm;obtain ⟨its,_,h',_⟩:=Src.sq.val I h;exact ⟨_,h'⟩
 have hlt:∀sr∈ls,sr.adr < s.heap.objs.size:=λsr hm=>by obtain ⟨xs,h⟩:=hv sr hm;obtain ⟨o,n,ho,_⟩:=h.obj;exact Heap.lt_size ho
 refine ZGw hv hl hct hcn hok λh' n hn hz hTI hTO hi kp=> ?_
 refine wpAny_pyIter_zip hz ?_;have I2:Inv X pins σ H {s with heap:=h'}:=I.kept (t':=s.toks) kp
 have em:(ls.zipIdx s.heap.objs.size).map (·.1)=ls:=by refine List.ext_getElem (by simp) λi h1 h2=>by simp
 have e2:(ls.zipIdx s.heap.objs.size).map (·.2)=List.range' s.heap.objs.size ls.length:=by refine List.ext_getElem (by simp) λi h1 h2=>by simp [Nat.add_comm]
 have qb:∀q∈ls.zipIdx s.heap.objs.size,q.1.adr < s.heap.objs.size/\s.heap.objs.size<=q.2/\q.2 < n:=λq hm=>⟨hlt _ (W2 hm).1,(W2 hm).2.1,by rw [hn];exact (W2 hm).2.2⟩
 have hsn:s.heap.objs.size<=n:=by rw [hn];exact Nat.le_add_right _ _
 have ap:ApZ (n + 1) (ls.zipIdx s.heap.objs.size):=⟨by rw [e2];exact List.nodup_range',λq hm=>Nat.ne_of_lt (Nat.lt_of_lt_of_le (qb q hm).1 (Nat.le_succ_of_le hsn)),λq hm r hr=>Nat.ne_of_lt (Nat.lt_of_lt_of_le (qb q hm).1 (qb r hr).2.1),λq hm=>Nat.ne_of_lt (Nat.lt_succ_of_lt (qb q hm).2.2)⟩;have T:=ZE9 (P:=X.prog) (w:=X.w) (K:=X.K) (elts:=elts) (x1:=x1) (pos:=tp) (ls.zipIdx s.heap.objs.size) (n + 2) n (n + 1) ap ⟨Nat.succ_ne_self (n + 1),λq hm=>⟨Nat.ne_of_lt (Nat.lt_of_lt_of_le (qb q hm).2.2 (Nat.le_add_right n 2)),Nat.ne_of_lt (Nat.lt_of_lt_of_le (qb q hm).1 (Nat.le_trans hsn (Nat.le_add_right n 2)))⟩⟩
  ⟨Nat.ne_of_lt (Nat.lt_add_of_pos_right (by decide)),Nat.ne_of_lt (Nat.lt_succ_self n),λq hm=>Nat.ne_of_lt (qb q hm).2.2⟩ (by simpa using hl) (by intro e;apply hne;rw [<-em,e];rfl)
 rw [em] at T;refine ⟨n + 2,_,_,_,H,rfl,I2,T,⟨hz,hTI,⟨_,hTO,by simp⟩,hi⟩,λb hb=> ?_,q⟩;have hle:s.heap.objs.size<=b:=by
  rcases List.mem_cons.mp hb with rfl | hb
  ·exact Nat.le_trans hsn (Nat.le_add_right n 2)
  ·rcases List.mem_cons.mp hb with rfl | hb
   ·exact hsn
   ·rcases List.mem_cons.mp hb with rfl | hb
    ·exact Nat.le_succ_of_le hsn
    ·obtain ⟨q,hq,rfl⟩:=List.mem_map.mp hb;exact (W2 hq).2.1
 exact I.Hy hle (I.hok.fresh hle)
theorem ZKX {elts:List Expr} {x1} {tp:Pos} {a b:Expr} {ta:TA} {p pos:Pos} (hg:Gl X "zip") (hm:X.mg "zip"=none) (ha:PA X [a,b] ta) (hs:starEach [a,b] X.env= [(false,eval a X.env),(false,eval b X.env)]:=by rfl) (hs2:starEach [b] X.env= [(false,eval b X.env)]:=by rfl):
  PI X (.Tuple elts x1 tp) (.Call (.Name "zip" p) [a,b] [] pos) (iZip 2 X.K ta):=by
 intro pins s σ H R I h;refine Call_ (Ij I hg hm PyProof.Rows.boot_zip (PyProof.Rows.callWith_type1 (thn (ha pos pins s σ H _ I h) λus s1 ⟨vs,H1,I1,r1,q1⟩=> ?_) (by rw [hs,hs2]) (by rw [hs2];rfl)));obtain ⟨ls,rfl,hq,hl,q⟩:=q1;cases ZC9 r1
 match ls,hl with
 | [x,y],_=>exact ZFn I1 hq (by simp) (by simp) (PySem.F.typeCall_zip_2 _ _) (PySem.F.newCall_zip_2 _ _) (λobj=>PySem.F.args_object_init_3 obj _ _) q
theorem ZJx {n:Nat} {Q:It->Hp->Prop} (hK:K=X.K) (h:lI K E (Do (Lf n) ta) σ H Q):iZip n K (lA K E ta) σ H Q:=by
 subst hK;obtain ⟨a,S,G,hk,rfl,s,r,h⟩:=h;refine ⟨a,S,G,hk,rfl,s,r,(Qw h).imp ?_⟩;rintro vs _ ⟨b,ds,G1,rfl,x,s1,q,-,h1⟩;unfold Lf at h1;split at h1
 ·rename_i hok;obtain ⟨ls,e,hq,rd⟩:=ZDr s1 q hok.1;have kb:b.K=X.K:=x.k.trans hk;have hl:ls.length=n:=by have:=q.length;rw [e,List.length_map] at this;lia
  exact ⟨ls,e,λsr hm=>by rw [<-kb];exact hq sr hm,hl,h1 b _ (Ext.refl b) s1 (ZKx kb rd _)⟩
 ·exact h1.elim
theorem ZK0 {elts:List Expr} {x1} {tp:Pos} {a b:Expr} {p pos:Pos} (hg:Gl X "zip") (hm:X.mg "zip"=none) (ha:QA X E [a,b] ta) (hs:starEach [a,b] X.env= [(false,eval a X.env),(false,eval b X.env)]:=by rfl) (hs2:starEach [b] X.env= [(false,eval b X.env)]:=by rfl):
  QI X E (.Tuple elts x1 tp) (.Call (.Name "zip" p) [a,b] [] pos) (Do (Lf 2) ta):=(ZKX hg hm ha hs hs2).mono λσ H Q h=>ZJx rfl h
end
noncomputable def ixL:D->D->DH->R D
 | .ref p,.int k,G=>match G[p]? with
  | some (.lst xs)=>match atI xs k with
   | some v=>.ok v G
   | none=>.bad
  | _=>.bad
 | _,_,_=>.bad
noncomputable def N6 (to ti te:DE) (f:D->D->DH->R D):DS:=λS G=>(to S G).toS λo G1=>(ti S G1).toS λi G2=>(ixL o i G2).toS λx G3=>(te S G3).toS λy G4=>(f x y G4).toS λz G5=>(Gg o i z G5).toS λ_ G6=>.nx S G6
noncomputable def sBad:DS:=λ_ _=>.bad
section
variable {X:Cx} {E:XK}
theorem ZFh {st:Stmt}:QS X E st sBad:=λpins s σ H W I h=>by obtain ⟨a,S,G,hk,rfl,sm,r,h⟩:=h;exact h.elim
theorem Sh {o i e:Expr} {op:Operator} {to ti te:DE} {f:D->D->DH->R D} {tpos pos:Pos} (ho:QE X E o to) (hi:QE X E i ti) (he:QE X E e te) (hop:OpR X (inplaceOp op) (lR2 X.K E f))
  (ha:∀ov iv new,augStore i ov iv new=(do holding [new,ov,iv] (setItem ov iv new);release [new,ov,iv] [];pure .next):=by intros;rfl):QS X E (.AugAssign (.Subscript o i tpos) op e pos) (N6 to ti te f):=by
 intro pins s σ H W I h;obtain ⟨a,S,G,hk,rfl,sm,r,h⟩:=h;refine wpAny_AugAssign_SubscriptAny (thn (ho pins s σ a.H _ I ⟨a,S,G,hk,rfl,sm,r,Hg h⟩) ?_) ha;rintro ov s1 ⟨vo,H1,I1,ro,b1,o,G1,rfl,x1,m1,q1,_,h1⟩;have k1:=x1.k.trans hk;refine thn (hi pins s1 σ b1.H _ I1 ⟨b1,S,G1,k1,rfl,m1,r.mono x1,Hg h1⟩) ?_;rintro iv s2 ⟨vi,H2,I2,ri,b2,i,G2,rfl,x2,m2,q2,_,h2⟩;have k2:=x2.k.trans k1;have q1':=q1.mono x2;cases i with
 | int k=>
  cases o with
  | ref p=>
   obtain ⟨hp,rfl⟩:=q1'
   cases (show vi=V.int k from q2)
   cases ro;obtain ⟨t,rfl⟩:=ri;unfold ixL at h2;dsimp only at h2;split at h2
   ·rename_i xs hx';obtain ⟨vs,e1,r1⟩:=m2.lst hx';split at h2
    ·rename_i d hd;obtain ⟨v,ev,rd⟩:=ZBt r1 hd;have h2':Bp E b2 ((te S G2).toS λy G4=>(f d y G4).toS λz G5=>(Gg (.ref p) (.int k) z G5).toS λ_ G6=>.nx S G6) W:=h2;obtain ⟨its,rv,pl,hz⟩:=I2.list (.of e1);obtain ⟨j,g1,g2,g3,g4,g5⟩:=T8 ev;obtain ⟨w,ew,rw'⟩:=rv.get g2;have hl:=rv.length;have hn:=line63;have fin:wpAny (model X.prog X.w) X.A (getItem (.ref (b2.m p)) (.int k t)) (λold s3=>old=w/\s3=s2) X.xe s2:=by
      by_cases h0:0<=k
      ·have hj:k.toNat=j:=by rw [seqIndex_of h0 g5] at g1;exact Option.some.inj g1
       exact wpAny_getItem_list pl.isList h0 (by lia) (by rw [hj];simpa using ew) ⟨rfl,rfl⟩
      ·have hj:(k + (its.toArray.size:Int)).toNat=j:=by rw [seqIndex_neg (by lia) g4] at g1;rw [List.size_toArray,<-hl];exact Option.some.inj g1
       exact wpAny_getItem_list_neg pl.isList (by lia) (by rw [List.size_toArray] <;> lia) (by lia) (by rw [hj];simpa using ew) ⟨rfl,rfl⟩
     refine thn fin ?_;rintro old s3 ⟨rfl,rfl⟩;refine thn (he pins s3 σ b2.H _ I2 ⟨b2,S,G2,k2,rfl,m2,(r.mono x1).mono x2,Hg h2'⟩) ?_;rintro yv s4 ⟨vy,H4,I4,ry,b4,y,G4,rfl,x4,m4,q4,_,h4⟩;have k4:=x4.k.trans k2;refine thn (hop pins s4 σ b4.H v vy old yv _ I4 rw' ry ⟨b4,G4,d,y,k4,rfl,m4,rd.mono x4,q4,Hg h4⟩) ?_;rintro new s5 ⟨vn,H5,I5,rn,b5,z,G5,rfl,x5,m5,q5,_,h5⟩;unfold Gg at h5;dsimp only at h5;split at h5
     ·rename_i ys hy;split at h5
      ·rename_i jj hjj;obtain ⟨ws,e5,r5⟩:=m5.lst hy;have hp5:p < b5.n:=Nat.lt_of_lt_of_le hp (Nat.le_trans x4.n x5.n);have em:b5.m p=b2.m p:=(x5.m p (Nat.lt_of_lt_of_le hp x4.n)).trans (x4.m p hp);obtain ⟨x6,m6⟩:=Za m5 hp5 e5 (r5.set q5 jj);refine thn (set_list pins s5 σ b5.H (.ref (b2.m p)) (.int k) vn (.ref (b2.m p)) (.int k t) new (λH'=>W.nx σ H') I5 rfl ⟨t,rfl⟩ rn ⟨b5.m p,ws,k,jj,by rw [em],rfl,e5,by rw [<-r5.length];exact hjj,?_⟩) ?_
       ·exact h5 _ σ x6 m6 (((((r.mono x1).mono x2).mono x4).mono x5).mono x6)
       ·rintro _ s6 ⟨H6,I6,q6⟩;exact ⟨σ,H6,I6,q6⟩
      ·exact h5.elim
     ·exact h5.elim
    ·exact h2.elim
   ·exact h2.elim
  | _=>exact (show False from h2).elim
 | _=>cases o <;> exact (show False from h2).elim
end
section
variable {X:Cx} {E:XK}
end
end DL
namespace DL
open PySem PySem.W PyProof.Rows
variable {n:Nat}
noncomputable def Safe (n:Nat) {α:Type} (P:α->Prop):KasT α->Prop
 | .ret a=>P a
 | .ask i j k=>i < n/\j < n/\∀b,Safe n P (k b)
theorem Safe.bind {α β:Type} {f:α->KasT β} {P:α->Prop} {Q:β->Prop} (h2:∀a,P a->Safe n Q (f a)):∀{t:KasT α},Safe n P t->Safe n Q (t.bind f)
 | .ret a,h=>h2 a h
 | .ask _ _ _,h=>⟨h.1,h.2.1,λb=>Safe.bind h2 (h.2.2 b)⟩
noncomputable def Ents (n:Nat) (p:Array Nat):Prop:=0 < n/\p.Perm (List.range n).toArray
theorem Ents.lt {p:Array Nat} (h:Ents n p) {x:Nat} (hx:x∈p):x < n:=by have:=h.2.mem_iff.mp hx;simpa using this
theorem Ents.pt {p:Array Nat} (h:Ents n p) (k:Nat):p.getD k 0 < n:=by
 by_cases hk:k < p.size
 ·have:p.getD k 0=p[k]:=by simp [Array.getD,hk]
  rw [this];exact h.lt (Array.getElem_mem hk)
 ·have:p.getD k 0=0:=by simp [Array.getD,hk]
  rw [this];exact h.1
theorem Ents.perm {p q:Array Nat} (h:Ents n p) (e:q.Perm p):Ents n q:=⟨h.1,e.trans h.2⟩
theorem Xv {p:Array Nat} (h:Ents n p):∀f m,Safe n (λ_=>True) (kas_asc p f m)
 | 0,m=>trivial
 | f + 1,m=>⟨h.pt _,h.pt _,λb=>by
   cases b with
   | true=>exact trivial
   | false=>exact Xv h f (m + 1)⟩
theorem Ru:∀f {p:Array Nat} m q,Ents n p->Safe n (λr=>Ents n r.1) (kas_desc f p m q)
 | 0,p,m,q,h=>h
 | f + 1,p,m,q,h=>⟨h.pt _,h.pt _,λb=>by
   cases b with
   | true=>
    by_cases hq:q > 0
    ·simp only [if_true,if_pos hq];exact Ru f _ _ (h.perm (mirror_perm ..))
    ·simp only [if_true,if_neg hq];exact Ru f _ _ h
   | false=>
    refine ⟨h.pt _,h.pt _,λd=> ?_⟩;cases d with
    | true=>exact h
    | false=>exact Ru f _ _ h⟩
theorem ZCt {p:Array Nat} (h:Ents n p) (m k:Nat):Safe n (λr=>Ents n r.2) (kas_tail3 m k p):=by unfold kas_tail3;refine Safe.bind (P:=λ_=>True) (λa _=> ?_) (Xv (h.perm (mirror_perm ..)) _ _);exact h.perm (mirror_perm ..)
theorem ZDa {p:Array Nat} (h:Ents n p) (m k:Nat):Safe n (λr=>Ents n r.2) (kas_descPart m k p):=
 Safe.bind (P:=λr=>Ents n r.1) (λa ha=>by
  split
  ·exact ZCt (ha.perm (mirror_perm ..)) _ _
  ·exact ZCt ha _ _) (Ru _ _ _ h)
theorem ZLJ {p:Array Nat} (h:Ents n p) (k:Nat):Safe n (λr=>Ents n r.2) (kas_count k p):=
 Safe.bind (P:=λ_=>True) (λa _=>by
  split
  ·exact h
  ·split
   ·refine ⟨h.pt _,h.pt _,λc=> ?_⟩;cases c with
    | true=>exact h
    | false=>exact ZDa (h.perm (mirror_perm ..)) _ _
   ·exact ZDa h _ _) (Xv h _ _)
theorem X7 {p:Array Nat} (h:Ents n p) (k:Nat):∀f l r,Safe n (λ_=>True) (kas_place p k f l r)
 | 0,l,r=>trivial
 | f + 1,l,r=>by
  unfold kas_place;split
  ·trivial
  ·refine ⟨h.pt _,h.pt _,λc=> ?_⟩;cases c with
   | true=>exact X7 h k f _ _
   | false=>exact X7 h k f _ _
end DL
namespace DL
open PySem PySem.Spec L2
open PyProof.Rows hiding St
variable {n k:Nat} {a:Wd} {xs:List D} {vs:List V} {te:DE} {d:D} {us:List (Str×V)} {G:DH} {F:List D->DH->R D} {CX:CXT} {fd:FuncData} {ps:List Str}
theorem ZBT {cmp:Nat->Nat->(Bool->Shared->Prop)->Shared->Prop} {lt:Nat->Nat->Bool} {s:Shared} (h:∀i j,i < n->j < n->∀C:Bool->Shared->Prop,C (lt i j) s->cmp i j C s) {α:Type} {P:α->Prop} {Q:α->Shared->Prop}:
  ∀{t:PySem.W.KasT α},Safe n P t->Q (Hu lt t) s->t.kasWp cmp Q s
 | .ret _,_,hq=>hq
 | .ask i j k,hs,hq=>h i j hs.1 hs.2.1 _ (ZBT h (hs.2.2 (lt i j)) hq)
section
variable {prog:Program} {w:World} {A:Around} {s:Shared}
end
section
variable {X:Cx} {E:XK} {pins:List (Addr×Obj)} {σ:St} {s:Shared} {H:Hp} {h':Heap}
theorem ZKn {t':Nat} (I:Inv X pins σ H s) (k:∀b o,b≠X.env.locals->s.heap.get? b=some o->h'.get? b=some o) (ns:∀m,s.heap.Ns X.env.locals m->h'.Ns X.env.locals m):Inv X pins σ H {s with heap:=h',toks:=t'}:=by
 refine I.step (g':=s.gens) (d':=s.drawn) (ch:= []) (λ_ z=>nomatch z) (λb o hL _ _ e _=>k b o hL e) (λb o hL _ _ e _=>⟨o.slots,k b o hL e⟩) (λ_ _ _ _ n=>n) (λb o _ e=> ?_) (λ_ _ e=>e) (λ_ _ _ e=>e)
  (λb ps e=>⟨#[],by rw [e];simp⟩) ns (λb u e=> ?_) I.bare
 ·by_cases hb:b=X.env.locals
  ·obtain ⟨m,hn,_⟩:=I.loc;obtain ⟨o',_,_,ho',_⟩:=ns m hn;exact ⟨o',by rw [hb];exact ho'⟩
  ·exact ⟨o,k b o hb e⟩
 ·have nL:∀c w,H c=some w->c≠X.env.locals:=λc w e z=>by rw [z,I.free] at e;cases e
  refine (I.hok b u e).stay (λc v hc q=>k c v ?_ q) (λ_ q=>q) λ_ _ q=>q
  rcases hc with z | z
  ·rw [z];exact nL b u e
  ·exact nL c _ z
end
section
variable {prog:Program} {w:World} {A:Around} {E:Value->Shared->Prop} {s:Shared}
end
theorem ZIj:bootBuiltins "sorted"=some (.builtin "sorted"):=by decide +kernel
section
variable {X:Cx} {E:XK} {pins:List (Addr×Obj)} {σ:St} {s:Shared} {H:Hp}
end
section
variable {X:Cx} {E:XK}
theorem ZBl (r:Reps a xs vs):∀l:List Nat,(∀i∈l,i < xs.length)->Reps a (l.map λi=>xs.getD i .non) (l.map λi=>vs.getD i .non)
 | [],_=>rfl
 | i::l,h=>by
  have hi:i < xs.length:=h i List.mem_cons_self;obtain ⟨v,ev,rv⟩:=r.get (i:=i) (d:=xs[i]) (List.getElem?_eq_getElem hi);refine ⟨vs.getD i .non,_,rfl,?_,ZBl r l λj hj=>h j (List.mem_cons_of_mem _ hj)⟩;have e1:xs.getD i .non=xs[i]:=by simp [hi]
  have e2:vs.getD i .non=v:=by rw [List.getD_eq_getElem?_getD,ev];rfl
  show Rep a (xs.getD i .non) (vs.getD i .non);rw [e1,e2];exact rv
theorem ZCf {us:List Value} (r:Vals vs us):∀l:List Nat,(∀i∈l,i < vs.length)->Vals (l.map λi=>vs.getD i .non) (l.map λi=>us.getD i .none)
 | [],_=>.nil
 | i::l,h=>by
  have hi:i < vs.length:=h i List.mem_cons_self;obtain ⟨u,eu,ru⟩:=r.get (i:=i) (x:=vs[i]) (List.getElem?_eq_getElem hi);rw [List.map_cons,List.map_cons];have e1:vs.getD i .non=vs[i]:=by simp [hi]
  have e2:us.getD i .none=u:=by rw [List.getD_eq_getElem?_getD,eu];rfl
  rw [e1,e2];exact .cons ru (ZCf r l λj hj=>h j (List.mem_cons_of_mem _ hj))
theorem Xp {lt:Nat->Nat->Bool} {P:Array Nat->Prop}:∀{t:PySem.W.KasT (Array Nat)},Safe n P t->P (Hu lt t)
 | .ret _,h=>h
 | .ask i j k,h=>Xp (t:=k (lt i j)) (h.2.2 (lt i j))
theorem ZC5:∀f {p:Array Nat} k,Ents n p->Safe n (Ents n) (PySem.W.kas_bin f p k)
 | 0,p,k,h=>h
 | f + 1,p,k,h=>Safe.bind (P:=λ_=>True) (λa _=>ZC5 f _ (h.perm (bubble_perm ..))) (X7 h k _ _ _)
theorem Zm (hn:0 < n):Safe n (Ents n) (PySem.W.kas_sort n):=
 Safe.bind (P:=λr=>Ents n r.2) (λa ha=>by
  split
  ·exact ZC5 _ _ ha
  ·exact ha) (ZLJ ⟨hn,Array.Perm.refl _⟩ _)
end
section
variable {S:DSt} {G:DH}
@[simp] theorem ZM1 {to ti:DE} {f:D->D->DH->R D}:N6 to ti te f S G=(to S G).toS λo G1=>(ti S G1).toS λi G2=>(ixL o i G2).toS λx G3=>(te S G3).toS λy G4=>(f x y G4).toS λz G5=>(Gg o i z G5).toS λ_ G6=>.nx S G6:=id rfl
theorem ZKA {p:Nat} {k:Int} (h:G[p]? =some (.lst xs)) (e:atI xs k=some d):ixL (.ref p) (.int k) G=.ok d G:=by unfold ixL;simp only;rw [h];simp only;rw [e]
noncomputable def Ie (xs:List D):List D:=xs.zipIdx.map λq=>.tup [.int q.2,q.1]
noncomputable def Nu (xs ys:List D):List D:=(xs.zip ys).map λq=>.tup [q.1,q.2]
theorem ZIC (j:Nat) (G:DH):Hv 0 (.fl xs) j G=some (Ie xs)[j]? :=by
 unfold Hv Ie;simp only [Br,List.getElem?_map,List.getElem?_zipIdx]
 cases xs[j]? <;> simp
theorem ZGu:(Ie xs).length=xs.length:=by simp [Ie]
theorem ZDb {f:Nat->DH->Option (Option D)} {g:DG} {c:DB} {F:D->Option D} (hf:∀j,f j G=some xs[j]?) (h:∀x∈xs,CStep g c te S G x (F x)):
  ∀(n j:Nat),xs.length<=j + n->De f g c te S n j G=.ok ((xs.drop j).filterMap F) G
 | 0,j,hj=>by
  unfold De;rw [hf,List.getElem?_eq_none (by lia)];simp only;rw [List.drop_of_length_le (by lia)]
  rfl
 | n + 1,j,hj=>by
  unfold De;rw [hf];by_cases hlt:j < xs.length
  ·have ih:=ZDb hf h n (j + 1) (by lia);obtain ⟨S1,h1,h2⟩:=h xs[j] (List.getElem_mem hlt);rw [List.getElem?_eq_getElem hlt];simp only [h1,R.Jr];rw [List.drop_eq_getElem_cons hlt,List.filterMap_cons];rcases h2 with ⟨h2,h3⟩ | ⟨h2,d,h3,h4⟩
   ·simp [h2,h3,ih]
   ·simp [h2,h3,h4,ih]
  ·rw [List.getElem?_eq_none (by lia),List.drop_of_length_le (by lia)]
   rfl
theorem ZB2 {f:Nat->DH->Option (Option D)} {g:DG} {c:DB} {F:D->Option D} (hf:∀j,f j G=some xs[j]?) (h:∀x∈xs,CStep g c te S G x (F x)) (hn:xs.length<=n):
  De f g c te S n 0 G=.ok (xs.filterMap F) G:=ZDb hf h n 0 (by lia)
theorem ZIp {e:D} {ys:List D} (hd:Br d G=some xs) (he:Br e G=some ys) (j:Nat):Ik [d,e] j G=some (Nu xs ys)[j]? :=by
 unfold Ik Nu;simp only [Hi,hd,he,List.getElem?_map,List.getElem?_zip_eq_some]
 have ez:(xs.zip ys)[j]? =match xs[j]?,ys[j]? with
  | some x,some y=>some (x,y)
  | _,_=>none:=by
  rw [List.zip,List.getElem?_zipWith]
  cases xs[j]? <;> cases ys[j]? <;> rfl
 rw [ez];cases xs[j]? with
 | none=>rfl
 | some x=>
  cases ys[j]? with
  | none=>rfl
  | some y=>rfl
theorem ZIu {e:D} {ys:List D} (hd:Br d G=some xs) (he:Br e G=some ys):Lf 2 [d,e] G=.ok (.fn xs.length (Ik [d,e])) G:=by simp [Lf,Oi,hd,he,lenOf]
@[simp] theorem W7:Br (.fl xs) G=some xs:=id rfl
theorem ZIt {i:Nat} (h:G[i]? =some (.lst xs)):Br (.ref i) G=some xs:=by simp [Br,h]
end
section
variable {X:Cx} {E:XK}
end
section
variable {i j:Int} {G:DH}
end
section
variable {X:Cx} {E:XK}
end
noncomputable def Hr (f:Str) (v:D):List (Str×D)->List (Str×D)
 | []=> [(f,v)]
 | (g,x)::r=>if g=f then (g,v)::r else (g,x)::Hr f v r
theorem RepF.mono {b:Wd} (x:Ext a b) {fs:List (Str×D)} (h:RepF a fs us):RepF b fs us:=⟨h.1,h.2.mono x⟩
theorem RepF.cons {g:Str} {v:V} {fs:List (Str×D)} (h:Rep a d v) (r:RepF a fs us):RepF a ((g,d)::fs) ((g,v)::us):=
 ⟨by simp [r.1],v,us.map (·.2),rfl,h,r.2⟩
theorem RepF.uncons {g:Str} {fs:List (Str×D)} (h:RepF a ((g,d)::fs) us):∃v us',us=(g,v)::us'/\Rep a d v/\RepF a fs us':=by
 obtain ⟨h1,h2⟩:=h;cases us with
 | nil=>simp at h1
 | cons q us=>
  obtain ⟨g',y⟩:=q;simp only [List.map_cons,List.cons.injEq] at h1;obtain ⟨rfl,h1⟩:=h1;obtain ⟨v,r,e1,r1,r2⟩:=h2;simp only [List.map_cons,List.cons.injEq] at e1;obtain ⟨rfl,rfl⟩:=e1;exact ⟨y,us,rfl,r1,h1,r2⟩
theorem RepF.nil' (h:RepF a [] us):us= []:=by
 obtain ⟨h1,_⟩:=h;cases us with
 | nil=>rfl
 | cons q us=>simp at h1
theorem lkc {α:Type} {f g:Str} {x:α} {fs:List (Str×α)}:List.lookup f ((g,x)::fs)=if (f == g)=true then some x else fs.lookup f:=by
 show (match f == g with
  | true=>some x
  | false=>List.lookup f fs)=_
 cases f == g <;> rfl
theorem RepF.look {f:Str} :∀{fs:List (Str×D)} {us:List (Str×V)},RepF a fs us->fs.lookup f=some d->∃u,us.lookup f=some u/\Rep a d u
 | [],us,h,e=>by simp at e
 | (g,x)::fs,us,h,e=>by
  obtain ⟨v,us',rfl,hv,hr⟩:=h.uncons;rw [lkc] at e ⊢;by_cases q:(f == g)=true
  ·rw [if_pos q] at e ⊢;cases e;exact ⟨v,rfl,hv⟩
  ·rw [if_neg q] at e ⊢;exact RepF.look hr e
theorem RepF.Wu {f:Str}:∀{fs:List (Str×D)} {us:List (Str×V)},RepF a fs us->fs.lookup f=none->us.lookup f=none
 | [],us,h,e=>by rw [h.nil'];rfl
 | (g,x)::fs,us,h,e=>by
  obtain ⟨v,us',rfl,hv,hr⟩:=h.uncons;rw [lkc] at e ⊢;by_cases q:(f == g)=true
  ·rw [if_pos q] at e;cases e
  ·rw [if_neg q] at e ⊢;exact RepF.Wu hr e
theorem RepF.put {f:Str} {v:V} (q:Rep a d v):∀{fs:List (Str×D)} {us:List (Str×V)},RepF a fs us->RepF a (Hr f d fs) (Dq f v us)
 | [],us,h=>by rw [h.nil'];exact RepF.cons (fs:= []) (us:= []) q ⟨rfl,rfl⟩
 | (g,x)::fs,us,h=>by
  obtain ⟨w,us',rfl,hv,hr⟩:=h.uncons;unfold Hr Dq;by_cases e:g=f
  ·rw [if_pos e,if_pos e];exact .cons q hr
  ·rw [if_neg e,if_neg e];exact .cons hv (RepF.put q hr)
theorem RepF.len {fs:List (Str×D)} (h:RepF a fs us):us.length=fs.length:=by have:=congrArg List.length h.1;simpa using this.symm
theorem Ext.wrI {p C dx:Addr} {ho:HO} (h:a.H p=some (.ins C dx us)):Ext a (a.put p ho):=
 ⟨rfl,Nat.le_refl _,λ_ _=>rfl,λq xs e=>by
  show upd a.H p ho q=_;rw [Ao (λz=>by subst z;rw [h] at e;cases e)];exact e,λq o u e=>by
  show upd a.H p ho q=_;rw [Ao (λz=>by subst z;rw [h] at e;cases e)];exact e,λ_ t=>t.mono (λq ps e=>by show upd a.H p ho q=_;rw [Ao (λz=>by subst z;rw [h] at e;cases e)];exact e) (λq o u e=>by show upd a.H p ho q=_;rw [Ao (λz=>by subst z;rw [h] at e;cases e)];exact e)⟩
theorem Sim.wrI (s:Sim a G) {i:Nat} (hi:i < a.n) {c:Str} {C dx:Addr} {us':List (Str×V)} {fs':List (Str×D)} (hn:PySem.W.nsIn a.K mainGlobals c=some (some (.ref C))) (h:a.H (a.m i)=some (.ins C dx us)) (r:RepF (a.put (a.m i) (.ins C dx us')) fs' us'):
  Sim (a.put (a.m i) (.ins C dx us')) (G.set i (.ins c fs')):=by
 refine ⟨by rw [List.length_set];exact s.len,s.inj,λj o e=> ?_,λj hj=> ?_⟩
 ·rw [List.getElem?_set] at e;show ORep _ o (upd a.H (a.m i) (.ins C dx us') (a.m j));by_cases hij:i=j
  ·subst hij;rw [if_pos rfl,if_pos (by rw [s.len];exact hi)] at e;cases e;rw [Dt];exact ⟨C,dx,us',hn,rfl,r⟩
  ·rw [if_neg hij] at e;rw [Ao λz=>hij (s.inj _ _ (s.lt e) hi z).symm];exact (s.obj j o e).mono (Ext.wrI h)
 ·show upd a.H (a.m i) (.ins C dx us') (a.m j)≠none;by_cases hij:a.m j=a.m i
  ·rw [hij,Dt];simp
  ·rw [Ao hij];exact s.tr j hj
noncomputable def Hq (c:Str) (d:D) (G:DH):Option (List (Str×D)):=match d with
 | .ref i=>match G[i]? with
  | some (.ins c' fs)=>if c'=c then some fs else none
  | _=>none
 | _=>none
theorem Sim.ins {x:V} {c:Str} {fs:List (Str×D)} (s:Sim a G) (r:Rep a d x) (h:Hq c d G=some fs):
  ∃i C dx us,d=.ref i/\i < a.n/\x=.ref (a.m i)/\G[i]? =some (.ins c fs)/\PySem.W.nsIn a.K mainGlobals c=some (some (.ref C))/\a.H (a.m i)=some (.ins C dx us)/\RepF a fs us:=by
 unfold Hq at h;split at h
 ·rename_i i;split at h
  ·rename_i c' fs' e;split at h
   ·rename_i hc;subst hc;cases h;obtain ⟨l,ev⟩:=r;obtain ⟨C,dx,us,n,e1,r1⟩:=s.obj i _ e;exact ⟨i,C,dx,us,rfl,l,ev,e,n,e1,r1⟩
   ·cases h
  ·cases h
 ·cases h
noncomputable def Bl (c:Str) (t:DE) (f:Str):DE:=λS G=>(t S G).bind λd G1=>match Hq c d G1 with
 | some fs=>match fs.lookup f with
  | some v=>.ok v G1
  | none=>.bad
 | none=>.bad
noncomputable def Eh (c:Str) (to tv:DE) (f:Str):DS:=λS G=>(tv S G).toS λd G1=>(to S G1).toS λo G2=>match o with
 | .ref i=>match Hq c o G2 with
  | some fs=>if fs.length < 1000 then .nx S (G2.set i (.ins c (Hr f d fs))) else .bad
  | none=>.bad
 | _=>.bad
noncomputable def Fd (c:Str) (m:Str) (F:List D->DH->R D) (to:DE) (t:DA):DE:=λS G=>(to S G).bind λo G1=>match Hq c o G1 with
 | some fs=>match fs.lookup m with
  | none=>(t S G1).bind λds G2=>F (o::ds) G2
  | some _=>.bad
 | none=>.bad
noncomputable def Xm (c:Str) (F:List D->DH->R D) (t:DA):DE:=λS G=>(t S G).bind λds G1=>(F (.ref G1.length::ds) (G1++ [.ins c []])).bind λv G2=>match v with
 | .non=>.ok (.ref G1.length) G2
 | _=>.bad
section
variable {X:Cx} {E:XK} {c f m:Str} {C:Addr} {e o:Expr} {es:List Expr} {t ta tv:DE} {tr:DA} {pos apos pos':Pos}
theorem Cj (hn:PySem.W.nsIn X.K mainGlobals c=some (some (.ref C))) (hc:Cls X.K C) (hf:NoAttr X.K C f) (ha:QE X E e t) (hb:attributeBase e f X.env (eval e X.env)=eval e X.env:=by rfl):QE X E (.Attribute e f pos) (Bl c t f):=
 (ZFp ha hb).mono λσ H Q h=>by
  obtain ⟨a,S,G,hk,rfl,s,r,h⟩:=h;refine ⟨a,S,G,hk,rfl,s,r,(Ec h).imp ?_⟩;rintro v _ ⟨b,d,G1,rfl,x,s1,q,-,h1⟩;split at h1
  ·rename_i fs hi;obtain ⟨i,C',dx,us,rfl,_,rfl,_,n',e1,r1⟩:=s1.ins q hi;have hCC:C'=C:=by
    rw [x.k,hk,hn] at n';cases n'
    rfl
   subst hCC;split at h1
   ·rename_i d' hd;obtain ⟨u,eu,ru⟩:=r1.look hd;exact ⟨b.m i,C',dx,us,u,rfl,e1,hc,hf,eu,h1 b u (Ext.refl b) s1 ru⟩
   ·exact h1.elim
  ·exact h1.elim
theorem N5 (hn:PySem.W.nsIn X.K mainGlobals c=some (some (.ref C))) (hc:Cls X.K C) (hf:NoAttr X.K C f) (ha:QE X E o ta) (hv:QE X E e tv) (hs:swapsWith e (some (.Attribute o f pos')) pos.line X.env=pure false:=by rfl):
  QS X E (.Assign [.Attribute o f pos'] e pos) (Eh c ta tv f):=
 (ZK9 ha hv hs).mono λW σ H h=>by
  obtain ⟨a,S,G,hk,rfl,s,r,h⟩:=h;refine ⟨a,S,G,hk,rfl,s,r,(Hg h).imp ?_⟩;rintro v _ ⟨b,d,G1,rfl,x,s1,q,-,h1⟩;refine ⟨b,S,G1,x.k.trans hk,rfl,s1,r.mono x,(Hg h1).imp ?_⟩;rintro v2 _ ⟨b2,d2,G2,rfl,x2,s2,q2,-,h2⟩;split at h2
  ·rename_i i;split at h2
   ·rename_i fs hi;split at h2
    ·rename_i hl;obtain ⟨i',C',dx,us,ei,li,rfl,eg,n',e1,r1⟩:=s2.ins q2 hi;cases ei;have hCC:C'=C:=by
      rw [x2.k,x.k,hk,hn] at n';cases n'
      rfl
     subst hCC;have x3:Ext b2 (b2.put (b2.m i) (.ins C' dx (Dq f v us))):=Ext.wrI e1;have s3:=s2.wrI (fs':=Hr f d fs) li n' e1 (RepF.put ((q.mono x2).mono x3) (r1.mono x3));exact ⟨b2.m i,C',dx,us,rfl,e1,hc,hf,by rw [r1.len];exact hl,h2 _ σ x3 s3 (((r.mono x).mono x2).mono x3)⟩
    ·exact h2.elim
   ·exact h2.elim
  ·exact h2.elim
theorem ZEL {sp:List D->DH->R D} {σ:St} {H:Hp} {Q:VK} (hn:PySem.W.nsIn X.K mainGlobals c=some (some (.ref C))) (h:lE X.K E (Fd c m F ta tr) σ H Q):Zy C m (lF X.K F) [] E (lE X.K E ta) (lA X.K E tr) σ H Q:=by
 obtain ⟨a,S,G,hk,rfl,s,r,h⟩:=h;refine ⟨a,S,G,hk,rfl,s,r,(Ec h).imp ?_⟩;rintro v _ ⟨b,d,G1,rfl,x,s1,q,-,h1⟩;split at h1
 ·rename_i fs hi;obtain ⟨i,C',dx,us,rfl,_,rfl,_,n',e1,r1⟩:=s1.ins q hi;have hCC:C'=C:=by
   rw [x.k,hk,hn] at n';cases n'
   rfl
  subst hCC;split at h1
  ·rename_i hm;refine ⟨b.m i,dx,us,rfl,e1,r1.Wu hm,b,S,G1,x.k.trans hk,rfl,s1,r.mono x,(Ka h1).imp ?_⟩;rintro vs _ ⟨b2,ds,G2,rfl,x2,s2,q2,-,h2⟩;exact ⟨b2,G2,.ref i::ds,(x2.k.trans x.k).trans hk,rfl,s2,⟨.ref (b.m i),vs,by rw [List.append_nil],q.mono x2,q2⟩,h2⟩
  ·exact h1.elim
 ·exact h1.elim
theorem Ld {g:Addr} {pl:Sem Bool} (hn:PySem.W.nsIn X.K mainGlobals c=some (some (.ref C))) (hc:Cls X.K C) (hm:Meth X.K C m g) (FF:FnOk X.prog X.w X.K X.mg X.base CX k g fd ps (lF X.K F)) (hr:Room k X.A) (hb:Binds X.K fd ps [])
  (hx:Passes CX X E) (ho:QE X E o ta) (ha:QA X E (e::es) tr) (he:notStar e=true:=by rfl) (hpl:es.all notStar=true:=by rfl)
  (ht:eval (.Call (.Attribute o m apos) (e::es) [] pos) X.env=(do
   let ov<-eval o X.env
   standAt apos.atName
   let (f,first)<-holding [ov] (getMethod ov m pl)
   callWith pos f first (backTo pos (starEach (e::es) X.env)) (backToKw pos (keywordEach [] X.env))):=by rfl):QE X E (.Call (.Attribute o m apos) (e::es) [] pos) (Fd c m F ta tr):=
 (ZKF (pl:=pl) ho hc hm FF hr hb .nil hx ha (Kw e es X.env he) (Ml pos X.env es hpl) ht).mono λσ H Q h=>ZEL (sp:=F) hn h
theorem Yc {g:Addr} {pl:Sem Bool} (hn:PySem.W.nsIn X.K mainGlobals c=some (some (.ref C))) (hc:Cls X.K C) (hm:Meth X.K C m g) (FF:FnOk X.prog X.w X.K X.mg X.base CX k g fd ps (lF X.K F)) (hr:Room k X.A) (hb:Binds X.K fd ps [])
  (hx:Passes CX X E) (ho:QE X E o ta)
  (ht:eval (.Call (.Attribute o m apos) [] [] pos) X.env=(do
   let ov<-eval o X.env
   standAt apos.atName
   let (f,first)<-holding [ov] (getMethod ov m pl)
   callWith pos f first (backTo pos (starEach [] X.env)) (backToKw pos (keywordEach [] X.env))):=by rfl):QE X E (.Call (.Attribute o m apos) [] [] pos) (Fd c m F ta Ai):=
 (ZEB (pl:=pl) ho hc hm FF hr hb .nil hx ht).mono λσ H Q h=>by
  obtain ⟨a,S,G,hk,rfl,s,r,h⟩:=h;refine ⟨a,S,G,hk,rfl,s,r,(Ec h).imp ?_⟩;rintro v _ ⟨b,d,G1,rfl,x,s1,q,-,h1⟩;split at h1
  ·rename_i fs hi;obtain ⟨i,C',dx,us,rfl,_,rfl,_,n',e1,r1⟩:=s1.ins q hi;have hCC:C'=C:=by
    rw [x.k,hk,hn] at n';cases n'
    rfl
   subst hCC;split at h1
   ·rename_i hm;exact ⟨b.m i,dx,us,rfl,e1,r1.Wu hm,b,G1,[.ref i],x.k.trans hk,rfl,s1,⟨.ref (b.m i),[],rfl,q,rfl⟩,h1⟩
   ·exact h1.elim
  ·exact h1.elim
theorem ZLa {ds:List D} {Q:VK} (hk:a.K=X.K) (hn:PySem.W.nsIn X.K mainGlobals c=some (some (.ref C))) (s:Sim a G) (q:Reps a ds vs)
  (h:out E a ((F (.ref G.length::ds) (G++ [.ins c []])).bind λv G2=>match v with
   | .non=>.ok (.ref G.length) G2
   | _=>.bad) Q):∀x dx,a.H x=none->a.H dx=none->dx≠x->lF X.K F (.ref x::(vs++ [])) (upd (upd a.H dx (.own x)) x (.ins C dx [])) (λv H2=>v=.non/\Q (.ref x) H2) E:=λp dx hp hdx hne=>by
 have x1:Ext a (a.put dx (.own p)):=Ext.put hdx;have s1:Sim (a.put dx (.own p)) G:=s.put hdx;have hp1:(a.put dx (.own p)).H p=none:=by show upd a.H dx (.own p) p=none;rw [Ao λz=>hne z.symm];exact hp
 have x2:Ext (a.put dx (.own p)) ((a.put dx (.own p)).push p (.ins C dx [])):=Ext.push hp1;have s2:Sim ((a.put dx (.own p)).push p (.ins C dx [])) (G++ [.ins c []]):=s1.push hp1 ⟨C,dx,[],by show PySem.W.nsIn a.K mainGlobals c=_;rw [hk];exact hn,rfl,rfl,rfl⟩;have hgl:G.length=a.n:=s.len;have mnew:((a.put dx (.own p)).push p (.ins C dx [])).m a.n=p:=by show (if a.n=a.n then p else a.m a.n)=p;rw [if_pos rfl]
 have rp:Rep ((a.put dx (.own p)).push p (.ins C dx [])) (.ref G.length) (.ref p):=by rw [hgl];exact ⟨Nat.lt_succ_self _,by rw [mnew]⟩
 refine ⟨(a.put dx (.own p)).push p (.ins C dx []),_,.ref G.length::ds,hk,rfl,s2,⟨.ref p,vs,by rw [List.append_nil],rp,(q.mono x1).mono x2⟩,(Ec (out.mono (x1.trans x2) h)).imp ?_⟩;rintro v _ ⟨b,d,G1,rfl,x3,s3,q3,-,h3⟩;split at h3
 ·have:v=.non:=q3;exact ⟨this,h3 b _ (Ext.refl b) s3 (rp.mono x3)⟩
 ·exact h3.elim
theorem ZGZ {g:Addr} {p:Pos} (hn:PySem.W.nsIn X.K mainGlobals c=some (some (.ref C))) (M:Mk X.K C g) (FF:FnOk X.prog X.w X.K X.mg X.base CX k g fd ps (lF X.K F)) (hr:Room (k + 1) X.A) (hg:Gl X c) (hm:X.mg c=some (.ref C)) (hb:Binds X.K fd ps [])
  (hx:Passes CX X E) (ha:QA X E (e::es) tr) (hdb:(c == ("__debug__":Str))=false:=by decide) (he:notStar e=true:=by rfl) (hpl:es.all notStar=true:=by rfl):QE X E (.Call (.Name c p) (e::es) [] pos) (Xm c F tr):=
 (ZIx M FF hr hg hm hb .nil hx ha hdb (Kw e es X.env he) (Ml pos X.env es hpl)).mono λσ H Q h=>by obtain ⟨a,S,G,hk,rfl,s,r,h⟩:=h;refine ⟨a,S,G,hk,rfl,s,r,(Ka h).imp ?_⟩;rintro vs _ ⟨b,ds,G1,rfl,x,s1,q,-,h1⟩;exact ZLa (x.k.trans hk) hn s1 q h1
end
noncomputable def mIndex (d:D) (ds:List D) (G:DH):R D:=match ds with
 | [.int k]=>match Ga d G with
  | some xs=>match Fo xs with
   | some ns=>if k∈ns/\ns.length<=1000000 then .ok (.int (ns.idxOf k)) G else .bad
   | none=>.bad
  | none=>.bad
 | _=>.bad
theorem Rq:∀{ns:List Int} {us:List Value},Vals (ns.map V.int) us->us.length=ns.length/\∀(j:Nat) (u:Value),us[j]? =some u->∃t,∃h:j < ns.length,u=.int ns[j] t
 | [],us,h=>by cases h;exact ⟨rfl,λj u e=>by simp at e⟩
 | n::ns,us,h=>by
  cases h with
  | cons r rr=>
   obtain ⟨h1,h2⟩:=Rq rr;obtain ⟨t,rfl⟩:=r;refine ⟨by simp [h1],λj u e=> ?_⟩;cases j with
   | zero=>simp at e;exact ⟨t,by simp,by simpa using e.symm⟩
   | succ j=>
    obtain ⟨t',hj,e'⟩:=h2 j u (by simpa using e);exact ⟨t',by simpa using hj,by simpa using e'⟩
section
variable {X:Cx} {E:XK}
theorem ZFx {acc:Array Value} (h:ItemsOf (λi v=>∃t,v=.int ((0:Int) + i * 1) t) acc n):Vals ((List.range n).map λ(i:Nat)=>V.int (i:Int)) acc.toList:=by
 obtain ⟨h1,h2⟩:=h;refine Zj (by simp [h1]) λi v u hv hu=> ?_
 have hi:i < n:=by have:=(List.getElem?_eq_some_iff.mp hv).1;simpa using this
 rw [List.getElem?_map,List.getElem?_range hi] at hv;have ev:v=V.int (i:Int):=by simpa using hv.symm
 obtain ⟨t,e⟩:=h2 i u (by rw [<-Array.getElem?_toList];exact hu);subst ev;refine ⟨t,?_⟩;rw [e]
 congr 1
 lia
noncomputable def Itd (lo:Int) (n:Nat):It:=⟨λi _=>i < n,λi H x H'=>H'=H/\x=.int (lo - i),λi _=>n<=i⟩
theorem ZHi {P:Program} {w:World} {K:PySem.W.Frag} {tg:Expr} (it:Addr) (lo:Int) (n:Nat):Turn P w K tg (Itd lo n) [it] it (λi h=>IsRangeIter h it (lo + (i:Nat) * (-1)) ((n:Int) - (i:Nat)) (-1)) where
 mem:=by simp
 obj:=λi h st b hb=>by
  have e:b=it:=by simpa using hb
  subst e;exact ⟨_,st,λv z=>by have z':Data.fields _=Data.cell v:=z;cases z'⟩
 keep:=λi h h' st k=>k it (by simp) _ st
 item:=by
  intro X hP hw hK hc i pins s σ H E I hf st hg;subst hP hw hK;obtain ⟨f0,f1,f2,f3,f4,f5⟩:=hf it (by simp);have W:=Walks.range (prog:=X.prog) (w:=X.w) (I.ok.hd hc) it lo (-1) n;refine W.item i s _ _ hg st λv h' tk hv st' kk=> ?_
  obtain ⟨t,rfl⟩:=hv;have I1:Inv X pins σ H {s with heap:=h',toks:=tk}:=I.turned (λb o hb e=>kk b o (by simpa using hb) e) f0 f1 f3 f4 f5;refine ⟨_,rfl,Ng (s:={s with heap:=h',toks:=tk}) (n:="range_iterator") st' rfl rfl (by decide) ⟨.int (lo - i),H,I1,⟨t,?_⟩,⟨rfl,rfl⟩,st',λb hb=>(hf b hb).1⟩⟩
  congr 1
  lia
 done:=by intro X hP hw hK hc i pins s σ H E I hf st hg;subst hP hw hK;obtain ⟨f0,f1,f2,f3,f4,f5⟩:=hf it (by simp);exact wpAny_pyNext_range_end (I.ok.hd hc) st (by have:n<=i:=hg;lia) λh' eb=>⟨rfl,I.turned (t':=s.toks) (λb o hb e=>eb b o hb e) f0 f1 f3 f4 f5⟩
 self:=λ_ _ _ _ _ st h=>wpAny_pyIter_rangeiter st h
theorem rangeSize_down (a b:Int):Builtin.Range.rangeSize a b (-1)=if b < a then a - b else 0:=by
 unfold Builtin.Range.rangeSize;rw [if_neg (by decide)];have e:(- (-1:Int))=1:=by decide
 rw [e,Int.ediv_one]
 split <;> lia
theorem small_down {a b:Int} (ha: -(2 ^ 62)<=a) (ha':a < 2 ^ 62) (hb: -(2 ^ 62)<=b) (hb':b < 2 ^ 62):Builtin.Range.small a b (-1)=true:=by
 unfold Builtin.Range.small;rw [rangeSize_down];simp only [Builtin.Range.rangeFitsLong,Bool.and_eq_true,Bool.or_eq_true,decide_eq_true_eq,beq_iff_eq,show¬((-1:Int) > 0) by decide,if_false]
 split <;> lia
noncomputable def iDn (ta:TA):TI:=λσ H R=>ta σ H λvs H1=>∃i j:Int,vs= [.int i,.int j,.int (-1)]/\(-(2 ^ 62)<=i/\i < 2 ^ 62/\ -(2 ^ 62)<=j/\j < 2 ^ 62)/\R (Itd i (i - j).toNat) H1
theorem ZJt {tg a b c:Expr} {ta:TA} {p pos:Pos} (hg:Gl X "range") (hm:X.mg "range"=none) (ha:PA X [a,b,c] ta) (hs:starEach [a,b,c] X.env=(false,eval a X.env)::starEach [b,c] X.env:=by rfl) (hs2:(backTo pos (starEach [b,c] X.env)).any (·.1)=false:=by rfl):
  PI X tg (.Call (.Name "range" p) [a,b,c] [] pos) (iDn ta):=by
 intro pins s σ H R I h;refine Call_ (Ij I hg hm PyProof.Rows.boot_range (PyProof.Rows.callWith_type1 (thn (ha pos pins s σ H _ I h) λus s1 ⟨vs,H1,I1,r1,q1⟩=> ?_) hs hs2));obtain ⟨i,j,e,⟨q1,q2,q3,q4⟩,q⟩:=q1;subst e;cases r1 with
 | cons r rr=>
  cases rr with
  | cons r' rr=>
   cases rr with
   | cons r'' rr=>
    cases rr;obtain ⟨t,rfl⟩:=r;obtain ⟨t',rfl⟩:=r';obtain ⟨t'',rfl⟩:=r'';refine call_range_3 (by decide) ?_ (.inl (PyProof.noPylong_small (by lia)));refine wpAny_pyIter_range (IsRange.new ..) (small_down q1 q2 q3 q4) ?_;have I2:Inv X pins σ H1 {s1 with heap:=s1.heap.push {cls:=.type "range",data:=.fields #[.int i t,.int j t',.int (-1) t'']},toks:=s1.toks}:=I1.kept λb o e=>Heap.get?_push_of_some _ e
    refine ⟨(s1.heap.push {cls:=.type "range",data:=.fields #[.int i t,.int j t',.int (-1) t'']}).objs.size,[(s1.heap.push {cls:=.type "range",data:=.fields #[.int i t,.int j t',.int (-1) t'']}).objs.size],_,_,H1,rfl,
     I2.kept (t':=s1.toks) λb o e=>Heap.get?_push_of_some _ e,ZHi _ i (i - j).toNat,?_,λb hb=> ?_,q⟩
    ·have e1:i + ((0:Nat):Int) * (-1)=i:=by simp
     have e2:(((i - j).toNat:Nat):Int) - ((0:Nat):Int)=Builtin.Range.rangeSize i j (-1):=by rw [rangeSize_down];split <;> lia
     show IsRangeIter _ _ (i + ((0:Nat):Int) * (-1)) ((((i - j).toNat:Nat):Int) - ((0:Nat):Int)) (-1);rw [e1,e2];exact Heap.get?_push_size _ rfl
    ·have e:b=(s1.heap.push {cls:=.type "range",data:=.fields #[.int i t,.int j t',.int (-1) t'']}).objs.size:=by simpa using hb
     subst e;exact I2.Hy (Nat.le_refl _) (I2.hok.fresh (Nat.le_refl _))
noncomputable def Ih (lo:Int) (n:Nat):List D:=(List.range n).map λ(k:Nat)=>D.int (lo - (k:Int))
noncomputable def rng3 (ds:List D) (G:DH):R ItD:=match ds with
 | [.int i,.int j,.int k]=>if inR i/\inR j/\k= -1 then .ok (.pure (Ih i (i - j).toNat)) G else .bad
 | _=>.bad
theorem ZFW (lo:Int) (n:Nat):RepI a (.pure (Ih lo n)) (Itd lo n):=by
 refine ⟨(List.range n).map λ(k:Nat)=>V.int (lo - (k:Int)),?_,λb x i=>⟨λv hv=> ?_,λhl=> ?_⟩⟩
 ·unfold Ih;generalize List.range n=l
  induction l with
  | nil=>exact rfl
  | cons k l ih=>exact ⟨_,_,rfl,rfl,ih⟩
 ·rw [List.getElem?_map] at hv;by_cases hi:i < n
  ·rw [List.getElem?_range hi] at hv;have hv':V.int (lo - (i:Int))=v:=by simpa using hv
   exact ⟨hi,λw H' y=>⟨y.2.trans hv',y.1⟩⟩
  ·rw [List.getElem?_eq_none (by simpa using hi)] at hv;cases hv
 ·show n<=i;simpa using hl
theorem ZF0 {tg e e' e'':Expr} {ta:DA} {p pos:Pos} (hg:Gl X "range") (hm:X.mg "range"=none) (ha:QA X E [e,e',e''] ta) (hs:starEach [e,e',e''] X.env=(false,eval e X.env)::starEach [e',e''] X.env:=by rfl) (hs2:(backTo pos (starEach [e',e''] X.env)).any (·.1)=false:=by rfl):
  QI X E tg (.Call (.Name "range" p) [e,e',e''] [] pos) (Do rng3 ta):=
 (ZJt hg hm ha hs hs2).mono λσ H Q h=>by
  obtain ⟨a,S,G,hk,rfl,s,r,h⟩:=h;refine ⟨a,S,G,hk,rfl,s,r,(Qw h).imp ?_⟩;rintro vs _ ⟨b,ds,G1,rfl,x,s1,q,-,h1⟩;unfold rng3 at h1;split at h1
  ·rename_i i j k;split at h1
   ·rename_i hj;obtain ⟨hi,hj,rfl⟩:=hj;obtain ⟨v,r,e1,q1,v2,r2,e2,q2,v3,r3,e3,q3,q4⟩:=q
    cases (show v=V.int i from q1)
    cases (show v2=V.int j from q2)
    cases (show v3=V.int (-1) from q3)
    cases (show r3= [] from q4)
    subst e3;subst e2;exact ⟨i,j,e1,⟨hi.1,hi.2,hj.1,hj.2⟩,h1 b _ (Ext.refl b) s1 (ZFW i (i - j).toNat)⟩
   ·exact h1.elim
  ·exact h1.elim
end
section
variable {prog:Program} {w:World} {A:Around} {E:Value->Shared->Prop} {s:Shared}
end
section
variable {X:Cx} {E:XK}
end
end DL
namespace DL
open PySem PySem.Spec L2
noncomputable def Ep (c f:Str) (d:D) (G:DH):R D:=match Hq c d G with
 | some fs=>match fs.lookup f with
  | some v=>.ok v G
  | none=>.bad
 | none=>.bad
noncomputable def Lj (c f:Str) (o d:D) (S:DSt) (G:DH):SR:=match o with
 | .ref i=>match Hq c o G with
  | some fs=>if fs.length < 1000 then .nx S (G.set i (.ins c (Hr f d fs))) else .bad
  | none=>.bad
 | _=>.bad
noncomputable def Ib (c m:Str) (F:List D->DH->R D) (t:DA) (S:DSt) (o:D) (G:DH):R D:=match Hq c o G with
 | some fs=>match fs.lookup m with
  | none=>(t S G).bind λds G2=>F (o::ds) G2
  | some _=>.bad
 | none=>.bad
noncomputable def ZDn (F:List D->DH->R D) (c:Str) (ds:List D) (G1:DH):R D:=(F (.ref G1.length::ds) (G1++ [.ins c []])).bind λv G2=>match v with
 | .non=>.ok (.ref G1.length) G2
 | _=>.bad
section
variable {S:DSt} {G:DH} {c f m:Str} {t to tv:DE} {ta:DA} {F:List D->DH->R D} {i:Nat} {fs:List (Str×D)} {v d:D}
@[simp] theorem ev_fld:Bl c t f S G=(t S G).bind λd G1=>Ep c f d G1:=id rfl
@[simp] theorem ZGe:Eh c to tv f S G=(tv S G).toS λd G1=>(to S G1).toS λo G2=>Lj c f o d S G2:=id rfl
@[simp] theorem ZMs:Fd c m F to ta S G=(to S G).bind λo G1=>Ib c m F ta S o G1:=id rfl
@[simp] theorem ZNE:Xm c F ta S G=(ta S G).bind λds G1=>ZDn F c ds G1:=id rfl
theorem Yh (h:G[i]? =some (.ins c fs)):Hq c (.ref i) G=some fs:=by unfold Hq;simp only [h,if_true]
theorem Ge (h:G[i]? =some (.ins c fs)) (h2:fs.lookup f=some v):Ep c f (.ref i) G=.ok v G:=by unfold Ep;rw [Yh h];simp only [h2]
theorem ZKL (h:G[i]? =some (.ins c fs)) (hl:fs.length < 1000):Lj c f (.ref i) d S G=.nx S (G.set i (.ins c (Hr f d fs))):=by unfold Lj;simp only [Yh h,hl,if_true]
theorem ZEj (h:G[i]? =some (.ins c fs)) (h2:fs.lookup m=none):Ib c m F ta S (.ref i) G=(ta S G).bind λds G2=>F (.ref i::ds) G2:=by unfold Ib;rw [Yh h];simp only [h2]
@[simp] theorem ZCA {i j:Int} (hi:inR i) (hj:inR j):rng3 [.int i,.int j,.int (-1)] G=.ok (.pure (Ih i (i - j).toNat)) G:=by simp [rng3,hi,hj]
theorem ZIM {lo:Int}:Ih lo 0= []:=rfl
theorem ZIV {lo:Int} {n:Nat}:Ih lo (n + 1)=.int lo::Ih (lo - 1) n:=by
 unfold Ih;rw [List.range_succ_eq_map,List.map_cons,List.map_map]
 congr 1
 ·simp
 ·refine List.map_congr_left λk _=> ?_
  simp only [Function.comp]
  congr 1
  lia
theorem Vu {d:D} {G G':DH} (hl:G'.length=G.length) (hb:bel G.length d=true):tidy G (.ok d G')=.ok d G':=by
 unfold tidy;simp only [hb,if_true];split
 ·rename_i h;rw [List.take_of_length_le (by lia)] at h;rw [h]
 ·rfl
theorem ZEy {d:D} {G G':DH} (h:G'.take G.length≠G):tidy G (.ok d G')=.ok d G':=by unfold tidy;simp only [h,if_false]
end
end DL
namespace DL
open PySem PySem.Spec L2
open PyProof.Rows hiding St
variable {a:Wd} {v:V} {c':Addr} {j:Int} {pos:Pos}
section
variable {X:Cx} {E:XK}
end
section
variable {i j:Int} {G:DH}
end
section
variable {X:Cx} {E:XK} {e st:Expr} {te:TE} {ts:TO} {p2 pos:Pos}
end
theorem Reps.rev:∀{ds:List D} {vs:List V},Reps a ds vs->Reps a ds.reverse vs.reverse
 | [],vs,r=>by cases r;exact Reps.nil
 | d::ds,vs,r=>by obtain ⟨v,vs',rfl,h,r'⟩:=r;rw [List.reverse_cons,List.reverse_cons];exact Reps.append (Reps.rev r') (Reps.cons h Reps.nil)
section
variable {S:DSt} {G:DH}
end
section
variable {X:Cx} {E:XK}
end
section
variable {S:DSt} {G:DH}
end
noncomputable abbrev Kq (X:Cx) (qual:Str) (scope:Scope) (f:Addr) (cd:Value) (L:Addr):Env:=PySem.W.envX qual scope L f cd (Cq X.env scope.names [])
noncomputable def Mj (X:Cx) (N:List Str) (qual:Str) (scope:Scope) (f:Addr) (cd:Value) (A:Around) (s:Shared) (H:Hp):Cx where
 prog:=X.prog
 w:=X.w
 K:=X.K
 mg:=X.mg
 base:=X.base
 A:=A.deeper (Kq X qual scope f cd s.heap.objs.size)
 N:=N
 s₀:=s
 H₀:=H
 env:=Kq X qual scope f cd s.heap.objs.size
 outer:=X.stack
 stack:=Kq X qual scope f cd s.heap.objs.size::X.stack
 ex:= []
 fn:=λ_=>false
 calm:=true
 pn:= []
 xe:=λ_ _=>False
noncomputable def Ht (caps:List Nat) (d:D) (S:DSt):DSt:=some d::caps.map λj=>(S[j]?).join
section
variable {X:Cx} {pins:List (Addr×Obj)} {σ:St} {H:Hp} {s:Shared} {N:List Str} {scope:Scope} {caps:List Nat} {x qual:Str} {f:Addr} {cd:Value} {A:Around}
theorem ZFQ (cs:CompSc X N scope 1 caps) (hN:N[0]? =some x) (hx:scope.names.lookup x=some .local) (I:Inv X pins σ H s) (hA:A.handled=none) (hfr:A.frames=some X.stack) {u:Value} (ru:RelV v u) {h₁:Heap} {tk:Nat}
  (hns:h₁.Ns s.heap.objs.size (λy=>List.lookup y [(x,u)].reverse)) (old:∀b o,s.heap.get? b=some o->h₁.get? b=some o):
  Inv (Mj X N qual scope f cd A s H) [] (some v::caps.map λj=>(σ[j]?).join) H {s with heap:=h₁,toks:=tk}:=by
 have noA:∀b:Addr,b ∉ (Mj X N qual scope f cd A s H).ex:=λb z=>absurd (show b∈([]:List Addr) from z) (by simp)
 refine ⟨⟨I.ok.mod,cs.kind,rfl,rfl,Nat.le_refl _,λy z c h1 h2=>I.ok.inj y z c (cs.cl I.ok h1) (cs.cl I.ok h2),λy hy=> ?_,λy c h=>absurd (show (false:Bool)=true from h) (by decide),λ_=>hA,Around.frames_deeper hfr,.inr ⟨rfl,rfl⟩,λb z=>absurd z (noA b),I.bs,Nat.le_trans I.ok.bsz I.sz,λb _ _=>noA b,λb z=>absurd z (noA b),I.stack,I.Wj⟩,
  rfl,I.bare,Un.kept old,⟨_,hns,λi y v' e1 e2 e3=> ?_⟩,λy d' e=> ?_,I.hok.fresh (Nat.le_refl _),λy d' e=>I.Gy y d' (cs.cl I.ok e),λp hp=>absurd (show p∈([]:List (Addr×Obj)) from hp) (by simp),I.hok.kept old,?_⟩
 ·have hy':scope.names.lookup y=some .cell∨scope.names.lookup y=some .free:=hy;have hfree:scope.names.lookup y=some .free:=by
   rcases hy' with z | z
   ·exact absurd rfl (cs.nocell _ (PySem.mem_of_lookup z))
   ·exact z
  obtain ⟨d,hd⟩:=My (env:=X.env) (x:=y) (names:=scope.names) (cs:= []) (.inl (PySem.mem_of_lookup hfree));exact Ox hd
 ·have e1':N[i]? =some y:=e1;cases i with
  | zero=>
   rw [hN] at e1';cases e1';have e2':v=v':=by simpa using e2
   subst e2';exact ⟨u,ru,.inl ⟨hx,by simp⟩⟩
  | succ i=>
   have e2':((caps.map λj=>(σ[j]?).join)[i]?)=some (some v'):=by simpa using e2
   rw [List.getElem?_map] at e2';cases ej:caps[i]? with
   | none=>rw [ej] at e2';cases e2'
   | some j=>
    rw [ej] at e2';have h1:(σ[j]?).join=some v':=by simpa using e2'
    have h2:σ[j]? =some (some v'):=by
     cases q:σ[j]? with
     | none=>rw [q] at h1;cases h1
     | some o=>
      rw [q] at h1;have h1':o=some v':=h1;rw [h1']
    obtain ⟨y2,ey,en,ek⟩:=cs.cap i j ej;have exy:y=y2:=by rw [Nat.add_comm] at en;rw [e1'] at en;exact Option.some.inj en
    subst exy;have kx:=cs.free (y,.free) (PySem.mem_of_lookup ek) rfl;have vis:Vis X.env.scope y:=by
     rcases kx with kx | kx
     ·exact .inr (.inl kx)
     ·exact .inr (.inr kx)
    obtain ⟨m,hn,hl⟩:=I.loc;obtain ⟨u2,ru2,lk⟩:=hl j y v' ey h2 vis;refine ⟨u2,ru2,?_⟩;rcases lk with ⟨k1,_⟩ | ⟨k1,c1,ec,hcell⟩
    ·rcases kx with kx | kx
     ·rw [k1] at kx;cases kx
     ·rw [k1] at kx;cases kx
    ·refine .inr ⟨.inr ek,c1,?_,?_⟩
     ·obtain ⟨d1,hd1⟩:=My (env:=X.env) (x:=y) (names:=scope.names) (cs:= []) (.inl (PySem.mem_of_lookup ek));obtain ⟨d2,hd2⟩:=Ox hd1;have:=cs.cl I.ok hd2;rw [ec] at this;cases this;exact hd2
     ·obtain ⟨o,e,dd⟩:=hcell;exact ⟨o,old _ _ e,dd⟩
 ·obtain ⟨v',o,e',dd⟩:=I.cell y d' (cs.cl I.ok e);exact ⟨v',o,old _ _ e',dd⟩
 ·show (some v::caps.map λj=>(σ[j]?).join).length=N.length;rw [cs.len];simp;lia
theorem ZFE {S:DSt} {d:D} (r:RepS a S σ) (rd:Rep a d v):RepS a (Ht caps d S) (some v::caps.map λj=>(σ[j]?).join):=by
 refine ⟨by simp [Ht],λi e h=> ?_⟩;unfold Ht at h;cases i with
 | zero=>
  have h':d=e:=by simpa using h
  subst h';exact ⟨v,rfl,rd⟩
 | succ i=>
  have h':((caps.map λj=>(S[j]?).join)[i]?)=some (some e):=by simpa using h
  rw [List.getElem?_map] at h';cases ej:caps[i]? with
  | none=>rw [ej] at h';cases h'
  | some j=>
   rw [ej] at h';have h1:(S[j]?).join=some e:=by simpa using h'
   have h2:S[j]? =some (some e):=by
    cases q:S[j]? with
    | none=>rw [q] at h1;cases h1
    | some o=>
     rw [q] at h1;have h1':o=some e:=h1;rw [h1']
   obtain ⟨v',ev,rv⟩:=r.get j e h2;exact ⟨v',by simp [ej,ev],rv⟩
theorem ZJ0 {S:DSt} {G:DH} {body:Expr} {te:DE} {params:Arguments} {pm ctv:Value} {ob:Obj} {d:D} {u:Value} {Q:VK} {E:XK}
  (cs:CompSc X N scope 1 caps) (hN:N[0]? =some x) (hx:scope.names.lookup x=some .local) (hco:scope.isCoroutine=false) (hgen:scope.isGenerator=false)
  (I:Inv X pins σ a.H s) (hk:a.K=X.K) (sm:Sim a G) (rS:RepS a S σ) (ho:s.heap.get? f=some ob) (hd:ob.data=.func (PySem.W.kla_fn "<lambda>" qual params body scope (Cq X.env scope.names []) pm (.ref c') ctv)) (hcd:s.heap.CodeRec (.ref c') qual)
  (hbind:bindArgs (PySem.W.kla_fn "<lambda>" qual params body scope (Cq X.env scope.names []) pm (.ref c') ctv) ⟨[u],[]⟩=pure [(x,u)])
  {k:Nat} (hr:Room (k + 1) A) (hfr:A.frames=some X.stack) (he:Room k (A.deeper (Kq X qual scope f (.ref c') s.heap.objs.size))->QE (Mj X N qual scope f (.ref c') A s a.H) E0 body te)
  (ru:RelV v u) (rd:Rep a d v) (h:out E0 a (te (Ht caps d S) G) Q):
  codeAny (model X.prog X.w) A (.call (.ref f) ⟨[u],[]⟩) (CR CX0 X.stack X.prog X.w a.H s Q E) s:=by
 refine PySem.W.kla_callFunE hr.depth ho hd hco hgen rfl hcd ?_;rw [hbind];refine wpAny_pure (wpAny_newFunctionEnv cs.nocell (λy hy=> ?_) (λh₁ hns hsb=> ?_) cs.kind)
 ·have hy':y=(x,u):=by simpa using hy
  subst hy';exact hx
 have old:∀b o,s.heap.get? b=some o->h₁.get? b=some o:=λb o e=>hsb.extBut b o (Nat.ne_of_lt (Heap.lt_size e)) (Heap.get?_push_of_some _ e)
 refine ⟨I.nolimit.keeps old,?_⟩;have J:=ZFQ (qual:=qual) (f:=f) (cd:=.ref c') cs hN hx I hr.hd hfr ru (tk:=s.toks + 1) hns old;refine PySem.W.kla_codeExpr (wpAny_mono (he (hr.deeper _) [] _ _ a.H Q J ⟨a,Ht caps d S,G,hk,rfl,sm,ZFE rS rd,h⟩) (λr s' hq=> ?_) λ_ _ hF=>hF.elim);obtain ⟨v',H',J',rv,q⟩:=hq;exact ⟨v',H',J'.os,J'.bare,J'.base,J'.hok,rv,q⟩
end
noncomputable def BMd (base:Heap) (mg:Str->Option Value):Prop:=∃(bm:Addr) (ob:Obj),mg "__builtins__"=some (.ref bm)/\bm≠builtinsNs/\base.get? bm=some ob/\ob.cls=.type "module"/\ob.dict=some builtinsNs/\ob.data=.plain
theorem ZE4 {i:Int} {t u:Tok} {c:Value} (l:List Value) (h:TriplesOk l):TriplesOk (l++ [.int i t,.int j u,c]):=by
 fun_induction TriplesOk l with
 | case1=>simp [TriplesOk]
 | case2 a b c d x rest ih=>exact ih h
 | case3=>exact h.elim
theorem ZFe {i:Int} {t u:Tok} {c cv:Value} (l:List Value) (h:TriplesOk l) (hc:codeAmong pos (l++ [.int i t,.int j u,c])=some cv):codeAmong pos l=some cv∨cv=c:=by
 fun_induction TriplesOk l with
 | case1=>
  right
  simp only [List.nil_append,codeAmong] at hc;split at hc
  ·exact (Option.some.inj hc).symm
  ·cases hc
 | case2 a b c' d x rest ih=>
  simp only [List.cons_append,codeAmong] at hc ⊢;split at hc
  ·rename_i e;rw [if_pos e];exact .inl hc
  ·rename_i e;rw [if_neg e];exact ih h hc
 | case3=>exact h.elim
section
variable {X:Cx} {pins:List (Addr×Obj)} {σ:St} {s:Shared} {scope:Scope} {a:Wd}
theorem grown {P:Addr} {ps more:Array Value} {oc:Obj} (hP:a.H P=some (.tbl ps)) (hc:a.H c'=none):
  let H':=upd (upd a.H P (.tbl (ps++more))) c' (.frz oc (.own 0))
  (∀b u,a.H b=some u->b≠P->H' b=some u)/\H' P=some (.tbl (ps++more))/\H' c'=some (.frz oc (.own 0)):=by
 have h1:P≠c':=λz=>by rw [z,hc] at hP;cases hP
 refine ⟨λb u e hb=> ?_,?_,Dt⟩
 ·rw [Ao (Ft e hc),Ao hb];exact e
 ·rw [Ao h1,Dt]
theorem ZGf {P:Addr} {ps:Array Value} {i:Int} {t u:Tok} {oc:Obj} {vs:Array Value} {tk:Tok} (T:TabOk a.H P) (hP:a.H P=some (.tbl ps)) (hc:a.H c'=none) (hd:oc.data=.fields vs) (hv:vs[1]? =some (.str Cz tk)):
  Ext a {a with H:=upd (upd a.H P (.tbl (ps++ #[.int i t,.int j u,.ref c']))) c' (.frz oc (.own 0))}:=by
 obtain ⟨g1,g2,g3⟩:=grown (more:= #[.int i t,.int j u,.ref c']) (oc:=oc) hP hc;have ne:∀b (w:HO),a.H b=some w->(∀q,w≠ .tbl q)->b≠P:=λb w e n z=>by rw [z,hP] at e;exact n _ (Option.some.inj e).symm
 refine ⟨rfl,Nat.le_refl _,λ_ _=>rfl,λb xs e=>g1 b _ e (ne b _ e (by intro q z;cases z)),λb o w e=>g1 b _ e (ne b _ e (by intro q z;cases z)),λp tp=> ?_⟩;by_cases e:p=P
 ·subst e;obtain ⟨ps',e1,e2,e3⟩:=tp;rw [hP] at e1;cases e1;refine ⟨_,g2,by simpa using ZE4 ps.toList e2,λpos cv hcv=> ?_⟩;have hcv':codeAmong pos (ps.toList++ [.int i t,.int j u,.ref c'])=some cv:=by simpa using hcv
  rcases ZFe ps.toList e2 hcv' with z | z
  ·obtain ⟨c,oc',vs',t',q1,q2,q3,q4⟩:=e3 pos cv z;exact ⟨c,oc',vs',t',q1,g1 c _ q2 (ne c _ q2 (by intro q z;cases z)),q3,q4⟩
  ·exact ⟨c',oc,vs,tk,z,g3,hd,hv⟩
 ·obtain ⟨ps',e1,e2,e3⟩:=tp;refine ⟨ps',g1 p _ e1 e,e2,λpos cv hcv=> ?_⟩;obtain ⟨c,oc',vs',t',q1,q2,q3,q4⟩:=e3 pos cv hcv;exact ⟨c,oc',vs',t',q1,g1 c _ q2 (ne c _ q2 (by intro q z;cases z)),q3,q4⟩
theorem ZHW {b:Wd} {G:DH} (sm:Sim a G) (x:Ext a b) (hn:b.n=a.n) (hm:b.m=a.m) {P:Addr} {ps:Array Value} (hP:a.H P=some (.tbl ps)) (h1:∀p u,a.H p=some u->p≠P->b.H p=some u) (h2:b.H P≠none):Sim b G:=by
 refine ⟨by rw [hn];exact sm.len,by rw [hn,hm];exact sm.inj,λi o e=> ?_,λi hi=> ?_⟩
 ·have q:=sm.obj i o e;rw [hm];have same:∀w:HO,a.H (a.m i)=some w->(∀z,w≠ .tbl z)->b.H (a.m i)=a.H (a.m i):=λw e n=>by rw [h1 _ _ e (λz=>by rw [z,hP] at e;exact n _ (Option.some.inj e).symm),e]
  cases o with
  | lst ds=>
   obtain ⟨us,e1,r1⟩:=q;rw [same _ e1 (by intro z y;cases y)];exact ⟨us,e1,r1.mono x⟩
  | dct kvs=>
   obtain ⟨us,e1,k1,r1⟩:=q;rw [same _ e1 (by intro z y;cases y)];exact ⟨us,e1,k1,r1.mono x⟩
  | ins c fs=>
   obtain ⟨C,dx,us,n1,e1,k1,r1⟩:=q;rw [same _ e1 (by intro z y;cases y)];exact ⟨C,dx,us,by rw [x.k];exact n1,e1,k1,r1.mono x⟩
  | tab C m=>obtain ⟨c1,P1,e1,t1⟩:=q;exact ⟨c1,P1,by rw [x.k];exact e1,x.tab _ t1⟩
  | gone=>trivial
 ·rw [hn] at hi;rw [hm];have z:=sm.tr i hi;cases e:a.H (a.m i) with
  | none=>exact absurd e z
  | some w=>
   by_cases hp:a.m i=P
   ·rw [hp];exact h2
   ·rw [h1 _ _ e hp];intro y;cases y
theorem ZLH {params:Arguments} {body:Expr} {c P:Addr} {clos:List (Str×Addr)} (I:Inv X pins σ a.H s) (hcl:closureFor scope X.env=pure clos) (hcode:X.env.code=.ref c) (hhd:PySem.W.codeHdIn X.K c P=true) (T:TabOk a.H P) (B:BMd X.base X.mg)
  (hq:X.env.qual++"<lambda>"=Cz) (hdef:defaultsOf params X.env=([],[])) {R:Value->Shared->Prop}
  (h:∀(b:Wd) (f c':Addr) (ctv:Value) (ob oc:Obj) (vs:Array Value) (t:Tok) (s':Shared),Ext a b->(∀G,Sim a G->Sim b G)->Inv X ((f,ob)::pins) σ b.H s'->ob.data=.func (PySem.W.kla_fn "<lambda>" Cz params body scope clos ((X.mg "__name__").getD .none) (.ref c') ctv)->
   b.H c'=some (.frz oc (.own 0))->oc.data=.fields vs->vs[1]? =some (.str Cz t)->R (.ref f) s'):
  wpAny (model X.prog X.w) X.A (eval (.Lambda params body scope pos) X.env) R X.xe s:=by
 refine PySem.W.kla_eval hdef ?_;rw [hq];obtain ⟨ps,hPs,tr,ent⟩:=id T;have hobj:s.heap.get? P=some (PySem.W.tabObj ps):=I.hok P _ hPs;have hCH:PySem.W.CodeHd s.heap c P:=PySem.W.codeHd_of_K I.kIn hhd;have G:s.heap.Ns mainGlobals X.mg:=I.ok.mod.glob.keeps I.bk;have hgP:mainGlobals≠P:=λq=>by obtain ⟨o,es,ep,e,hd,_⟩:=G;rw [q,hobj] at e;cases e;cases hd
 obtain ⟨bm,ob,b1,b2,b3,b4,b5,b6⟩:=B;have b3':=I.bk _ _ b3;have hbP:bm≠P:=λq=>by rw [q,hobj] at b3';cases b3';cases b4
 have hbG:bm≠mainGlobals:=λq=>by obtain ⟨o,es,ep,e,hd,_⟩:=G;rw [q,e] at b3';cases b3';rw [hd] at b6;cases b6
 have BA:s.heap.BuiltinsAt X.mg P:=⟨bm,ob,b1,b2,hbG,hbP,b3',b4,b5,b6⟩;have hLP:X.env.locals≠P:=λz=>by have:=I.free;rw [z,hPs] at this;cases this
 cases hca:codeAmong pos ps.toList with
 | some cv=>
  obtain ⟨c',oc,vs,t,rfl,hfz,e3,e4⟩:=ent pos cv hca;refine PySem.W.kla_makeFunctionHit hcl I.ok.glob G hcode hCH hobj tr hca BA λctv h' tk hk hsz=> ?_
  have k2:∀b o,s.heap.get? b=some o->(h'.push {cls:=.type "function",data:=.func (PySem.W.kla_fn "<lambda>" Cz params body scope clos ((X.mg "__name__").getD .none) (.ref c') ctv)}).get? b=some o:=λb o e=>Heap.get?_push_of_some _ (hk b o e)
  have I2:=I.kept (t':=tk) k2;refine h a h'.objs.size c' ctv {cls:=.type "function",data:=.func (PySem.W.kla_fn "<lambda>" Cz params body scope clos ((X.mg "__name__").getD .none) (.ref c') ctv)} oc vs t _ (Ext.refl a) (λ_ z=>z) (I2.Gk λp hp=> ?_) rfl hfz e3 e4;rcases List.mem_cons.mp hp with rfl | hp
  ·exact ⟨Heap.get?_push_size _ rfl,I.hok.fresh hsz,Nat.ne_of_gt (Nat.lt_of_lt_of_le I.lt hsz),I.nofs hsz,λv z=>by cases z⟩
  ·exact I2.pin p (List.mem_append_right _ hp)
 | none=>
  refine PySem.W.kla_makeFunction hcl I.ok.glob G hcode hCH hobj tr hca hgP BA λc' ctv h' tk hx hge hlt hrec htb=> ?_
  obtain ⟨c2,oc,vs,t,e2,hoc,hd,hv⟩:=hrec;cases e2;have hcn:a.H c'=none:=I.hok.fresh hge;obtain ⟨g1,g2,g3⟩:=grown (more:= #[rawInt pos.line,rawInt pos.col,.ref c']) (oc:=oc) hPs hcn;have x:Ext a {a with H:=upd (upd a.H P (.tbl (ps++ #[rawInt pos.line,rawInt pos.col,.ref c']))) c' (.frz oc (.own 0))}:=ZGf T hPs hcn hd hv;generalize hHe:upd (upd a.H P (.tbl (ps++ #[rawInt pos.line,rawInt pos.col,.ref c']))) c' (.frz oc (.own 0))=H' at *
  generalize hfo:PySem.W.kla_obj "<lambda>" Cz params body scope clos ((X.mg "__name__").getD .none) c' ctv=fo;have old:∀b o,b≠P->s.heap.get? b=some o->(h'.push fo).get? b=some o:=λb o hb e=>Heap.get?_push_of_some _ (hx b o hb e)
  have hP2:(h'.push fo).get? P=some (PySem.W.tabObj (ps++ #[rawInt pos.line,rawInt pos.col,.ref c'])):=Heap.get?_push_of_some _ htb;have nP:∀b,a.H b=none->b≠P:=λb e z=>by rw [z,hPs] at e;cases e
  have nf:∀b,a.H b=none->b≠c'->H' b=none:=λb e hb=>by rw [<-hHe,Ao hb,Ao (nP b e)];exact e
  have hsz:s.heap.objs.size<=h'.objs.size:=Nat.le_trans hge (Nat.le_of_lt hlt);have I2:Inv X pins σ H' {s with heap:=h'.push fo,toks:=tk}:=by
   refine I.step (g':=s.gens) (d':=s.drawn) (ch:= []) (λ_ z=>nomatch z) (λb o _ _ _ e n=>old b o (nP b n) e) (λb o _ _ _ e n=>⟨o.slots,old b o (nP b n) e⟩) (λb o _ e n=>nf b n (Nat.ne_of_lt (Nat.lt_of_lt_of_le (Heap.lt_size e) hge))) (λb o _ e=> ?_)
    x.tup x.frz (λb q e=> ?_) (λm hn=>(hn.extBut hx hLP).push _) (λb u e=> ?_) I.bare
   ·by_cases hb:b=P
    ·subst hb;exact ⟨_,hP2⟩
    ·exact ⟨o,old b o hb e⟩
   ·by_cases hb:b=P
    ·subst hb;rw [hPs] at e;cases e;exact ⟨_,g2⟩
    ·exact ⟨#[],by rw [g1 b _ e hb];simp⟩
   ·by_cases hb:b=c'
    ·subst hb;rw [g3] at e;cases e;exact ⟨Heap.get?_push_of_some _ hoc,_,Heap.get?_push_of_some _ hoc⟩
    ·by_cases hb2:b=P
     ·subst hb2;rw [g2] at e;cases e;exact hP2
     ·have e':a.H b=some u:=by rw [<-hHe,Ao hb,Ao hb2] at e;exact e
      refine (I.hok b u e').stay (λb' o' hb' q=>old b' o' ?_ q) (λb' q=>g1 b' _ q ?_) λb' xs q=>x.tup b' xs q
      ·rcases hb' with rfl | hb'
       ·exact hb2
       ·intro z;rw [z,hPs] at hb';cases hb'
      ·intro z;rw [z,hPs] at q;cases q
  refine h _ h'.objs.size c' ctv fo oc vs t _ x (λG sm=>ZHW sm x rfl rfl hPs g1 (by show H' P≠none;rw [g2];intro z;cases z)) (I2.Gk λp hp=> ?_) (by rw [<-hfo]) g3 hd hv;rcases List.mem_cons.mp hp with rfl | hp
  ·refine ⟨Heap.get?_push_size _ (by rw [<-hfo];rfl),nf _ (I.hok.fresh hsz) (Nat.ne_of_gt hlt),Nat.ne_of_gt (Nat.lt_of_lt_of_le I.lt hsz),I.nofs hsz,λv z=>by rw [<-hfo] at z;cases z⟩
  ·exact I2.pin p (List.mem_append_right _ hp)
end
noncomputable def ltK (ks:List Int) (i j:Nat):Bool:=decide (ks.getD i 0 < ks.getD j 0)
noncomputable def Er (ks:List Int):List D:=
 if ks.length < 2 then Bf 0 ks.length else ((Hu (ltK ks.reverse) (PySem.W.kas_sort ks.length)).toList.map λi=>(Bf 0 ks.length).reverse.getD i .non).reverse
section
variable {prog:Program} {w:World} {A:Around} {E:Value->Shared->Prop} {s:Shared}
theorem ZKj {r:Addr} {t u v:Tok} {n:Nat} {Q:List Value->Shared->Prop} (hh:A.handled=none) (hr:IsRange s.heap r 0 j 1 t u v) (hsmall:Builtin.Range.small 0 j 1=true) (hn:Builtin.Range.rangeSize 0 j 1=n) (hlen:n<=2 ^ 24)
  (h:∀h' tk vs,(∀b o,s.heap.get? b=some o->h'.get? b=some o)->s.heap.objs.size < h'.objs.size->Vals ((List.range n).map λ(i:Nat)=>V.int (i:Int)) vs->Q vs {s with heap:=h',toks:=tk}):
  wpAny (model prog w) A (collect (.ref r)) Q E s:=by
 have key:∀R:Result->Shared->Prop,(∀h' tk acc' c',(∀b o,b≠s.heap.objs.size->(s.heap.push (seqObj "list" #[] 0)).get? b=some o->h'.get? b=some o)->h'.get? s.heap.objs.size=some {cls:=.type "list",dict:=none,data:=.seq acc' c',slots:= #[]}->
   ItemsOf (λi v=>∃t,v=.int (0 + i * 1) t) acc' n->R (.ok (.ret (.ref s.heap.objs.size))) {s with heap:=h',toks:=tk})->codeAny (model prog w) A (.builtin "list.__iadd__" ⟨[.ref s.heap.objs.size,.ref r],[]⟩) R {s with heap:=s.heap.push (seqObj "list" #[] 0)}:=λR hR=>by
  refine codeAny_builtin entry_list_iadd' ?_;rw [Around.under_plainId PySem.F.plain_list_iadd _];exact wpAny_extend_range (R:=R) (s:={s with heap:=s.heap.push (seqObj "list" #[] 0)}) hh (Heap.get?_push_of_some _ hr) hsmall hn hlen s.heap.objs.size (.ref s.heap.objs.size) 0 (Heap.get?_push_size _ rfl) hR
 unfold collect;refine wpAny_bind (wpAny_runValue (codeAny_builtin entry_proto_collect' ?_))
 show wpAny _ _ (do again (.builtin "list.__iadd__" ⟨[<-newList [],.ref r],[]⟩)) _ _ s
 refine wpAny_bind (wpAny_newList (wpAny_pure ⟨Code.quiet_builtin _ (by decide +kernel),key _ λh' tk acc' c' hk hS' hacc=> ?_⟩))
 show wpAny (model prog w) A (do
   let o<-load s.heap.objs.size
   match o.data with
   | .seq xs _=>pure xs.toList
   | _=>unsupported "internal:collect") Q E {s with heap:=h',toks:=tk}
 refine wpAny_bind (wpAny_load hS' ?_);exact wpAny_pure (h h' tk acc'.toList (λb o e=>hk b o (Nat.ne_of_lt (Heap.lt_size e)) (Heap.get?_push_of_some _ e)) (Heap.lt_size hS') (ZFx hacc))
theorem ZHR {M:Model} {A:Around} {E:Value->Shared->Prop} {s:Shared} {env:Env} {T:String} {e:Expr} {rest:List Expr} {kws:List Keyword} {Q:Value->Shared->Prop}
  (hall:(backToKw pos (keywordEach kws env)).all (·.1.isSome)=true)
  (h:wpAny M A (spliced (backTo pos (starEach (e::rest) env))) (λvs s₁=>wpAny M A (evalAll ((backToKw pos (keywordEach kws env)).map (·.2)))
   (λks s₂=>wpAny M A (call (.builtin T) vs (((backToKw pos (keywordEach kws env)).filterMap (·.1)).zip ks)) Q E s₂) E s₁) E s)
  (hplain:(backTo pos (starEach (e::rest) env)).any (·.1)=false) (hkw:(backToKw pos (keywordEach kws env)).any (·.1.isNone)=false) (he:starEach (e::rest) env=(false,eval e env)::starEach rest env):
  wpAny M A (callWith pos (.builtin T) [] (backTo pos (starEach (e::rest) env)) (backToKw pos (keywordEach kws env))) Q E s:=by
 unfold callWith;refine wpAny_bind (wpAny_holding (wpAny_mono (PyProof.Rows.evalArgs_kw2 (Q:=λa s₁=>wpAny M A (call (.builtin T) ([]++a.pos) a.kw) Q E s₁) hall h he) (λa s₁ h₁=>wpAny_bind (wpAny_standAt ?_)) λ_ _ x=>x));simp only [hplain,hkw,Bool.or_false];refine wpAny_bind (wpAny_pure ?_);exact wpAny_bind (wpAny_mono h₁ (λr s₂ hr=>wpAny_bind (wpAny_holding (wpAny_point (wpAny_pure hr)))) λ_ _ x=>x)
theorem ZH6 {r q:Addr} {t u v:Tok} {n:Nat} {Q:Value->Shared->Prop} (hh:A.handled=none) (hr:IsRange s.heap r 0 j 1 t u v) (hsmall:Builtin.Range.small 0 j 1=true) (hn:Builtin.Range.rangeSize 0 j 1=n) (hlen:n < 64)
  (h:∀D h1 tk vs,s.heap.objs.size<=D->h1.get? D=some (seqObj "list" vs.toArray 0)->(∀b o,s.heap.get? b=some o->h1.get? b=some o)->Vals ((List.range n).map λ(i:Nat)=>V.int (i:Int)) vs->
   wpAny (model prog w) A.in1.in1 (PyProof.Rows.ksk_tree D (.ref q) true) (λfin s'=>fin=PySem.Fin.done (.ret .none)/\Q (.ref D) s') E {s with heap:=h1,toks:=tk}):
  wpAny (model prog w) A (call (.builtin "sorted") [.ref r] [("key",.ref q),("reverse",.bool true)]) Q E s:=by
 refine call_function_entry_kw kind_sorted plain_sorted entry_sorted (PyProof.Rows.ksk_s2 _ _ _) ?_;unfold Builtin.«sorted»;refine wpAny_bind (m:=checkCount "sorted" 1 1 _) (wpAny_pure ?_);refine wpAny_bind (ZKj (A:=A.in1) hh hr hsmall hn (by lia) λh' tk vs kp hlt rv=> ?_);have hvl:vs.length=n:=by have:=rv.length;simpa using this.symm
 refine wpAny_bind (wpAny_newList ?_ (by rw [hvl,sizeLine_eq];lia));have hD:(h'.push (seqObj "list" vs.toArray 0)).get? h'.objs.size=some (seqObj "list" vs.toArray 0):=Heap.get?_push_size _ rfl;have hq:=h h'.objs.size (h'.push (seqObj "list" vs.toArray 0)) tk vs (Nat.le_of_lt hlt) hD (λb o e=>Heap.get?_push_of_some _ (kp b o e)) rv;refine wpAny_bind (wpAny_holding (wpAny_call_entry_kw slot_list_sort ⟨_,hD,rfl⟩ entry_list_sort ?_ (PyProof.Rows.ksk_l2 _ _ _)))
 show wpAny (model prog w) A.in1.in1 (Builtin.«list.sort» ⟨[.ref h'.objs.size],[(Str.ofString "key",.ref q),(Str.ofString "reverse",.bool true)]⟩) _ _ _;rw [PyProof.Rows.ksk_t2];refine wpAny_mono hq (λfin s' hf=> ?_) λ_ _ x=>x
 exact ⟨_,hf.1,wpAny_pure ⟨_,rfl,hf.2⟩⟩
end
section
variable {X:Cx} {pins:List (Addr×Obj)} {σ:St} {H:Hp} {s:Shared} {h':Heap} {m:Str->Option Value}
theorem Zt {q:Addr} (I:Inv X pins σ H s) (f:FpOk X pins H q) (k:∀b o,b≠X.env.locals->b≠q->s.heap.get? b=some o->h'.get? b=some o) (hq:∀o,s.heap.get? q=some o->∃o',h'.get? q=some o') (ns:∀m,s.heap.Ns X.env.locals m->h'.Ns X.env.locals m):Inv X pins σ H {s with heap:=h'}:=by
 have nL:∀c w,H c=some w->c≠X.env.locals:=λc w e z=>by rw [z,I.free] at e;cases e
 have nq:∀c w,H c=some w->c≠q:=λc w e z=>by rw [z,f.1] at e;cases e
 refine I.step (t':=s.toks) (g':=s.gens) (d':=s.drawn) (ch:= [q]) (λb hb=> ?_) (λb o hL _ hc e _=>k b o hL (λz=>hc (by simp [z])) e) (λb o hL _ hc e _=>⟨o.slots,k b o hL (λz=>hc (by simp [z])) e⟩) (λ_ _ _ _ n=>n) (λb o hc e=> ?_) (λ_ _ e=>e) (λ_ _ _ e=>e)
  (λb ps e=>⟨#[],by rw [e];simp⟩) ns (λb u e=> ?_) I.bare
 ·have hb':b=q:=by simpa using hb
  subst hb';exact ⟨f.2.2.2.1,f.2.1,f.2.2.2.2.1,f.2.2.2.2.2⟩
 ·by_cases hb:b=X.env.locals
  ·obtain ⟨m,hn,_⟩:=I.loc;obtain ⟨o',_,_,ho',_⟩:=ns m hn;exact ⟨o',by rw [hb];exact ho'⟩
  ·by_cases hb2:b=q
   ·subst hb2;exact hq o e
   ·exact ⟨o,k b o hb hb2 e⟩
 ·refine (I.hok b u e).stay (λc v hc z=>k c v ?_ ?_ z) (λ_ z=>z) λ_ _ z=>z
  ·rcases hc with z | z
   ·rw [z];exact nL b u e
   ·exact nL c _ z
  ·rcases hc with z | z
   ·rw [z];exact nq b u e
   ·exact nq c _ z
theorem ZGD {H':Hp} {h2:Heap} (I:Inv X pins σ H s) (un:Un (frs X.stack) [] H H' s.heap h2) (hn:s.heap.Ns X.env.locals m):h2.Ns X.env.locals m:=by
 obtain ⟨o,es,ep,e,hd,r⟩:=hn;by_cases hs:X.env.locals∈frs X.stack
 ·obtain ⟨sl,e2⟩:=un.slot _ o e I.free hs (by simp);exact ⟨_,es,ep,e2,hd,r⟩
 ·exact ⟨o,es,ep,un.keep _ o e I.free hs (by simp),hd,r⟩
theorem ZCw {H':Hp} {h2:Heap} {q:Addr} {o:Obj} (I:Inv X pins σ H s) (un:Un (frs X.stack) [] H H' s.heap h2) (f:FpOk X pins H q) (e:s.heap.get? q=some o):h2.get? q=some o/\FpOk X pins H' q:=by
 have hs:q ∉ frs X.stack:=λz=>by
  rcases List.mem_cons.mp (I.Qq q z) with z | z
  ·exact f.2.1 z
  ·exact f.2.2.1 z
 exact ⟨un.keep q o e f.1 hs (by simp),un.free q o e f.1 (by simp),f.2⟩
end
noncomputable def Gm (te:DE) (caps:List Nat) (S:DSt):Nat->Nat->DH->R (List Int)
 | 0,_,G=>.ok [] G
 | n + 1,i,G=>(te (Ht caps (.int i) S) G).bind λd G1=>match d with
  | .int k=>(Gm te caps S n (i + 1) G1).bind λks G2=>.ok (k::ks) G2
  | _=>.bad
structure KS (X:Cx) (pins:List (Addr×Obj)) (σ:St) (D kS:Addr) (e1:Nat) (m:Str->Option Value) (a b:Wd) (G:DH) (ks:List Value) (kz:List Int) (e:Nat) (s:Shared):Prop where
 inv:Inv X pins σ b.H s
 ext:Ext a b
 sim:Sim b G
 ns:s.heap.Ns X.env.locals m
 k:s.heap.get? kS=some (seqObj "list" ks.toArray e)
 d:s.heap.get? D=some (seqObj "list" #[] e1)
 fk:FpOk X pins b.H kS
 fd:FpOk X pins b.H D
 ne:D≠kS
 dge:X.s₀.heap.objs.size<=D
 iz:IntsAre ks kz
section
variable {X:Cx} {pins:List (Addr×Obj)} {σ:St} {N:List Str} {scope:Scope} {caps:List Nat} {x:Str} {f:Addr} {A:Around} {a:Wd} {S:DSt} {body:Expr} {te:DE} {params:Arguments} {pm ctv:Value} {c':Addr} {ob oc:Obj} {vs0:Array Value} {t0:Tok} {E:XK}
 {Dd kS:Addr} {e1:Nat} {m:Str->Option Value} {h₀:Heap} {Q:VK}
theorem Yy (cs:CompSc X N scope 1 caps) (hN:N[0]? =some x) (hx:scope.names.lookup x=some .local) (hco:scope.isCoroutine=false) (hgen:scope.isGenerator=false) (hk:a.K=X.K) (rS:RepS a S σ) (hp:(f,ob)∈pins)
  (hd:ob.data=.func (PySem.W.kla_fn "<lambda>" Cz params body scope (Cq X.env scope.names []) pm (.ref c') ctv)) (hc1:a.H c'=some (.frz oc (.own 0))) (hc2:oc.data=.fields vs0) (hc3:vs0[1]? =some (.str Cz t0))
  (hbind:∀u,bindArgs (PySem.W.kla_fn "<lambda>" Cz params body scope (Cq X.env scope.names []) pm (.ref c') ctv) ⟨[u],[]⟩=pure [(x,u)])
  {k:Nat} (hr:Room (k + 1) A) (hfr:A.frames=some X.stack) (he:∀s H,Room k (A.deeper (Kq X Cz scope f (.ref c') s.heap.objs.size))->QE (Mj X N Cz scope f (.ref c') A s H) E0 body te)
  (h0:h₀=Att.Jc h₀) {n0:Nat} {g:List Int->DH->R D} {Fin:List Value->Nat->Shared->Prop}
  (fin:∀(b:Wd) (G:DH) (ks:List Value) (kz:List Int) (e:Nat) (s:Shared),KS X pins σ Dd kS e1 m a b G ks kz e s->kz.length=n0->out E0 b (g kz G) Q->Fin ks e s):
  ∀(r:List Value) (i:Nat) (b:Wd) (G:DH) (ks:List Value) (kz:List Int) (e:Nat) (s:Shared),KS X pins σ Dd kS e1 m a b G ks kz e s->kz.length + r.length=n0->(∀(t:Nat) (v:Value),r[t]? =some v->∃tk,v=Value.int ((i + t:Nat):Int) tk)->
   out E0 b ((Gm te caps S r.length i G).bind λzs G2=>g (kz++zs) G2) Q->PySem.W.KatKeys X.prog X.w A h₀ X.env.locals m kS (.ref f) Fin r ks e s
 | [],i,b,G,ks,kz,e,s,K,hz,hv,h=>by refine PySem.W.KatKeys.nil (fin b G ks kz e s K hz ?_);have h':out E0 b (g (kz++ []) G) Q:=h;rw [List.append_nil] at h';exact h'
 | v::r,i,b,G,ks,kz,e,s,K,hz,hv,h=>by
  obtain ⟨tk,rfl⟩:=hv 0 v rfl;have kb:b.K=X.K:=K.ext.k.trans hk;have ho:s.heap.get? f=some ob:=(K.inv.pin _ (List.mem_append_right _ hp)).1;have hcr:s.heap.CodeRec (.ref c') Cz:=by obtain ⟨e3,_⟩:=K.inv.hok c' _ (K.ext.frz _ _ _ hc1);exact ⟨c',oc,vs0,t0,rfl,e3,hc2,hc3⟩
  have h1:out E0 b ((te (Ht caps (.int (i:Int)) S) G).bind λd G1=>(match d with
    | .int k=>(Gm te caps S r.length (i + 1) G1).bind λzs G2=>g (kz++(k::zs)) G2
    | _=>.bad)) Q:=by
   have h2:out E0 b (((te (Ht caps (.int (i:Int)) S) G).bind λd G1=>(match d with
    | .int k=>(Gm te caps S r.length (i + 1) G1).bind λks G2=>.ok (k::ks) G2
    | _=>.bad)).bind λzs G2=>g (kz++zs) G2) Q:=h
   rw [R.bind_assoc] at h2;refine cast (congrArg (λz=>out E0 b z Q) ?_) h2
   congr 1
   funext d G1
   cases d <;> first | rfl | (show ((Gm te caps S r.length (i + 1) G1).bind _).bind _=_;rw [R.bind_assoc];rfl)
  have rS':RepS b S σ:=rS.mono K.ext;refine PySem.W.KatKeys.cons (wpAny_call (codeAny_mono (ZJ0 (E:=E0) cs hN hx hco hgen K.inv kb K.sim rS' ho hd hcr (hbind _) hr hfr (he s b.H) (d:=.int (i:Int)) (u:=.int (i:Int) tk) (v:=.int (i:Int)) ⟨tk,rfl⟩ rfl (Ec h1)) λq s' hq=> ?_));cases q with
  | error e=>exact False.elim hq
  | ok fl=>
   cases fl with
   | next=>exact False.elim hq
   | brk=>exact False.elim hq
   | cont=>exact False.elim hq
   | ret u=>
    obtain ⟨v',H',os,bare,un,hok,ru,b',d',G',rfl,x',sm',rd',_,h3⟩:=hq;have I2:Inv X pins σ b'.H s':=by obtain ⟨hh,g1,d1,t1,os1⟩:=s';obtain rfl:os1=s.os:=os;exact K.inv.call (h':=hh) (g':=g1) (d':=d1) (t':=t1) (ch:= []) un hok bare (λb z=>absurd z (by simp))
    have n2:=ZGD K.inv un K.ns;obtain ⟨k2,fk2⟩:=ZCw K.inv un K.fk K.k;obtain ⟨d2,fd2⟩:=ZCw K.inv un K.fd K.d;cases d' with
    | int z=>
     cases (show v'=V.int z from rd')
     obtain ⟨tz,rfl⟩:=ru;refine ⟨(kS,seqObj "list" ks.toArray e)::Att.ledger s'.heap X.env.locals kS,_,⟨n2,λb o e=> ?_,?_⟩,λp hp=> ?_,.head λp hp=>(Att.Gj (a:=p.1) (o:=p.2).mp hp).2.1,λh2 c F2 N2=> ?_⟩
     ·rw [h0,Att.Ko] at e;cases e
     ·rw [h0];exact Nat.zero_le _
     ·rcases List.mem_cons.mp hp with rfl | hp
      ·exact ⟨k2,fk2.2.1,by rw [h0];exact Att.Ko _ _⟩
      ·obtain ⟨q1,q2,q3⟩:=(Att.Gj (a:=p.1) (o:=p.2)).mp hp;exact ⟨q3,q1,by rw [h0];exact Att.Ko _ _⟩
     ·have keep:∀b o,b≠X.env.locals->b≠kS->s'.heap.get? b=some o->h2.get? b=some o:=λb o h1 h2' e=>(N2 (b,o) (List.mem_cons_of_mem _ (Att.Gj.mpr ⟨h1,h2',e⟩))).1
      have new:=(N2 (kS,seqObj "list" (ks++ [Value.int z tz]).toArray c) List.mem_cons_self).1;have nsA:∀m',s'.heap.Ns X.env.locals m'->h2.Ns X.env.locals m':=λm' hm'=>by have e1:=n2.eq_nsMap;have e2:=hm'.eq_nsMap;rw [e2,<-e1];exact F2.ns
      have I3:=Zt I2 fk2 keep (λ_ _=>⟨_,new⟩) nsA;refine Yy cs hN hx hco hgen hk rS hp hd hc1 hc2 hc3 hbind hr hfr he h0 fin r (i + 1) b' G' (ks++ [Value.int z tz]) (kz++ [z]) c _ ⟨I3,K.ext.trans x',sm',F2.ns,new,keep Dd _ fd2.2.1 K.ne d2,fk2,fd2,K.ne,K.dge,PyProof.Rows.ksk_snoc K.iz⟩ (by rw [List.length_cons] at hz;rw [List.length_append,List.length_singleton];lia) (λt v hv'=> ?_) ?_
      ·obtain ⟨tk',e⟩:=hv (t + 1) v (by simpa using hv');exact ⟨tk',by rw [e];congr 1;lia⟩
      ·refine cast (congrArg (λz=>out E0 b' z Q) ?_) h3;show ((Gm te caps S r.length (i + 1) G').bind λzs G2=>g (kz++z::zs) G2)=_
       congr 1
       funext zs G2;simp
    | _=>exact h3.elim
end
end DL
namespace DL
open PySem PySem.Spec L2
open PyProof.Rows hiding St
open PySem.W (KatKeys KatFin katRev KatBack)
section
variable {prog:Program} {w:World} {A:Around} {E:Value->Shared->Prop} {s:Shared} {h₀:Heap} {L a kS:Addr} {m:Str->Option Value} {P:PySem.Fin->Shared->Prop}
theorem ZEl {ks:List Value} {v:Value} {e e1:Nat} (hl:ks.length=1) (h:KatFin h₀ L m kS a ks e e1 [v] (λs3=>P (.done (.ret .none)) s3) s):wpAny (model prog w) A (ksk_end a true [v].toArray e1 (.ref kS) ks.toArray) P E s:=by
 obtain ⟨k,rfl⟩:∃k,ks= [k]:=by
  match ks,hl with
  | [k],_=>exact ⟨k,rfl⟩
 unfold ksk_end;dsimp only;refine wpAny_bind (wpAny_rule ?_);have h2: [v].toArray.size < 2:=by simp
 rw [if_pos h2,if_pos h2];refine wpAny_bind (wpAny_pure ?_);rw [StateT.run_pure];refine wpAny_bind (wpAny_pure ?_);dsimp only;exact PySem.W.kat_tail (b:=true) (out:= [v]) (ks:= [k]) (by simp [arrOf]) (by simp) (by simp) rfl h
theorem ZJk {f v:Value} {n:Nat} (ho:s.heap.get? a=some (seqObj "list" [v].toArray n)) (hL:L < s.heap.objs.size)
  (h:∀kS e1 h',a < kS->s.heap.objs.size<=kS->h'.get? kS=some (seqObj "list" #[] 0)->h'.get? a=some (seqObj "list" #[] e1)->(∀b o,b≠a->s.heap.get? b=some o->h'.get? b=some o)->
   KatKeys prog w A h₀ L m kS f (λks e s'=>KatFin h₀ L m kS a ks e e1 [v] (λs4=>P (.done (.ret .none)) s4) s') [v] [] 0 {s with heap:=h'}):
  wpAny (model prog w) A (ksk_tree a f true) P E s:=by
 have ha:a < s.heap.objs.size:=Heap.lt_size ho;have s1:=Heap.SameBut.update s.heap a (Obj.mapSeq λ_=>(#[]:Array Value));obtain ⟨e1,ho1⟩:∃e1,(s.heap.update a (Obj.mapSeq λ_=>(#[]:Array Value))).get? a=some (seqObj "list" #[] e1):=⟨_,get?_update_seq ho λ_=> #[]⟩;unfold ksk_tree;refine wpAny_bind (listItems_at ho rfl (wpAny_bind (listUpdate_at ho rfl ?_ (by rw [List.size_toArray,sizeLine_eq];simp) (Nat.zero_le _))))
 refine wpAny_bind (seqEpoch_at ho1 rfl (wpAny_bind (wpAny_newTuple (wpAny_bind (wpAny_newList (wpAny_holding ?_) (Nat.zero_le _))) (by show [v].length<=_;rw [sizeLine_eq];simp))));generalize hh:(s.heap.update a (Obj.mapSeq λ_=>(#[]:Array Value))).push {cls:=.type "tuple",data:=.seq [v].toArray.toList.toArray}=h2;have z2:h2.objs.size=s.heap.objs.size + 1:=by rw [<-hh,size_push',Heap.size_update]
 have k2:∀b o,b≠a->s.heap.get? b=some o->h2.get? b=some o:=λb o hb q=>by rw [<-hh];exact Heap.get?_push_of_some _ (s1.extBut b o hb q)
 have a2:h2.get? a=some (seqObj "list" #[] e1):=by rw [<-hh];exact Heap.get?_push_of_some _ ho1
 have hq:=h h2.objs.size e1 (h2.push (seqObj "list" #[] 0)) (by rw [z2];exact Nat.lt_succ_of_lt ha) (by rw [z2];exact Nat.le_succ _) (Heap.get?_push_size _ rfl) (Heap.get?_push_of_some _ a2) λb o hb q=>Heap.get?_push_of_some _ (k2 b o hb q)
 show wpAny _ _ _ _ _ {s with heap:=h2.push (seqObj "list" #[] 0)};unfold ksk_rest;refine wpAny_bind (wpAny_rule ?_);rw [List.forIn_toArray,List.forIn_cons];have hq':wpAny (model prog w) A (call f [v]) (KatBack h₀ L m h2.objs.size [] 0 (λk c s'=>KatFin h₀ L m h2.objs.size a [k] c e1 [v] (λs4=>P (.done (.ret .none)) s4) s')) (λ_ _=>False) {s with heap:=h2.push (seqObj "list" #[] 0)}:=hq;refine wpAny_bind (wpAny_bind (wpAny_bind (wpAny_attempt (wpAny_mono hq' (λk s'' hk=> ?_) λ_ _ hF=>hF.elim))))
 obtain ⟨news',g,F',N',U,c⟩:=hk;obtain ⟨pre,post,e0,hg,x1,x2⟩:=U.split;rw [e0] at N';have nk:=N' (h2.objs.size,seqObj "list" (List.toArray []) 0) (List.mem_append_right _ (.head _))
 have s2:=Heap.SameBut.update s''.heap h2.objs.size (Obj.mapSeq (·.push k))
 obtain ⟨c2,hc2⟩:∃c2,(s''.heap.update h2.objs.size (Obj.mapSeq (·.push k))).get? h2.objs.size=some (seqObj "list" [k].toArray c2):=⟨_,get?_update_seq nk.1 (·.push k)⟩
 have fin:=c _ c2 (PySem.W.kas_fr F' s2 nk.2.1 nk.2.2) (by rw [hg];exact PySem.W.news_set N' x1 x2 s2 hc2);dsimp only;refine wpAny_bind (listUpdate_at nk.1 rfl ?_ (Nat.zero_le _) (by show (#[].push k:Array Value).size<=_;rw [sizeLine_eq];simp));refine wpAny_pure (wpAny_pure ?_);refine wpAny_bind (listItems_at hc2 rfl ?_);exact ZEl rfl fin
end
end DL
namespace DL
open PySem PySem.Spec L2
open PyProof.Rows hiding St
variable {k:Nat} {x:Str}
theorem X8:∀{ks:List Value} {kz:List Int},IntsAre ks kz->∀i,i < kz.length->∃t,ks.getD i Value.none=.int (kz.getD i 0) t
 | _,_,.nil,i,h=>absurd h (Nat.not_lt_zero _)
 | _,_,.cons n t r,0,_=>⟨t,rfl⟩
 | _,_,.cons n t r,i + 1,h=>X8 r i (Nat.lt_of_succ_lt_succ h)
theorem ZBp:∀{ks ls:List Value} {kz lz:List Int},IntsAre ks kz->IntsAre ls lz->IntsAre (ks++ls) (kz++lz)
 | _,_,_,_,.nil,h=>h
 | _,_,_,_,.cons n t r,h=>.cons n t (ZBp r h)
theorem ZBD:∀{ks:List Value} {kz:List Int},IntsAre ks kz->IntsAre ks.reverse kz.reverse
 | _,_,.nil=>.nil
 | _,_,.cons n t r=>by rw [List.reverse_cons,List.reverse_cons];exact ZBp (ZBD r) (.cons n t .nil)
theorem Vals.rev:∀{vs:List V} {us:List Value},Vals vs us->Vals vs.reverse us.reverse
 | _,_,.nil=>.nil
 | _,_,.cons r rr=>by rw [List.reverse_cons,List.reverse_cons];exact (Vals.rev rr).append (.cons r .nil)
theorem ZBy {a:Wd}:∀(n i:Nat),Reps a (Bf i n) ((List.range' i n).map λ(k:Nat)=>V.int (k:Int))
 | 0,i=>rfl
 | n + 1,i=>by rw [List.range'_succ,List.map_cons,Jw];exact ⟨_,_,rfl,rfl,by have:=ZBy (a:=a) n (i + 1);simpa using this⟩
section
variable {X:Cx} {pins:List (Addr×Obj)} {σ:St} {N:List Str} {scope:Scope} {caps:List Nat} {x:Str} {f:Addr} {A:Around} {a:Wd} {S:DSt} {body:Expr} {te:DE} {params:Arguments} {pm ctv:Value} {c':Addr} {ob oc:Obj} {vs0:Array Value} {t0:Tok}
 {Dd kS:Addr} {e1:Nat} {m:Str->Option Value} {h₀:Heap} {Q:VK}
theorem ZDp {b:Wd} {G:DH} {ks:List Value} {kz:List Int} {e:Nat} {s:Shared} {ys:List D} {ws:List V} {us:List Value} (K:KS X pins σ Dd kS e1 m a b G ks kz e s) (h0:h₀=Att.Jc h₀) (r:Reps b ys ws) (v:Vals ws us) (hz:us.length < 64)
  (h:out E0 b (.ok (.ref G.length) (G++ [.lst ys])) Q):PySem.W.KatFin h₀ X.env.locals m kS Dd ks e e1 us (λs4=>EP X pins σ Q (.ref Dd) s4) s:=by
 have g0:∀b,h₀.get? b=none:=λb=>by rw [h0];exact Att.Ko _ _
 have ab:h₀.objs.size<=X.env.locals:=by rw [h0];exact Nat.zero_le _
 refine PySem.W.KatFin.intro (news:=(kS,seqObj "list" ks.toArray e)::Att.ledger s.heap X.env.locals kS) ⟨K.ns,λb o e=>(by rw [g0] at e;cases e),ab⟩ (λp hp=> ?_) (.head λp hp=>((Att.Gj (a:=p.1) (o:=p.2)).mp hp).2.1) λh2 c F2 N2=> ?_
 ·rcases List.mem_cons.mp hp with rfl | hp
  ·exact ⟨K.k,K.fk.2.1,g0 _⟩
  ·obtain ⟨q1,q2,q3⟩:=(Att.Gj (a:=p.1) (o:=p.2)).mp hp;exact ⟨q3,q1,g0 _⟩
 have nsOf:∀{h3:Heap},h3.Ns X.env.locals m->∀m',s.heap.Ns X.env.locals m'->h3.Ns X.env.locals m':=λ{h3} hh m' hm'=>by have e1:=K.ns.eq_nsMap;have e2:=hm'.eq_nsMap;rw [e2,<-e1];exact hh
 have keep2:∀b o,b≠X.env.locals->b≠kS->s.heap.get? b=some o->h2.get? b=some o:=λb o q1 q2 e=>(N2 (b,o) (List.mem_cons_of_mem _ (Att.Gj.mpr ⟨q1,q2,e⟩))).1
 have new2:=(N2 (kS,seqObj "list" #[] c) List.mem_cons_self).1;have I2:=Zt K.inv K.fk keep2 (λ_ _=>⟨_,new2⟩) (nsOf F2.ns);have d2:=keep2 Dd _ K.fd.2.1 K.ne K.d;refine PySem.W.KasFin.intro (news:=(Dd,seqObj "list" #[] e1)::Att.ledger h2 X.env.locals Dd) F2 (λp hp=> ?_) (.head λp hp=>((Att.Gj (a:=p.1) (o:=p.2)).mp hp).2.1) λh3 c3 F3 N3=> ?_
 ·rcases List.mem_cons.mp hp with rfl | hp
  ·exact ⟨d2,K.fd.2.1,g0 _⟩
  ·obtain ⟨q1,q2,q3⟩:=(Att.Gj (a:=p.1) (o:=p.2)).mp hp;exact ⟨q3,q1,g0 _⟩
 have keep3:∀b o,b≠X.env.locals->b≠Dd->h2.get? b=some o->h3.get? b=some o:=λb o q1 q2 e=>(N3 (b,o) (List.mem_cons_of_mem _ (Att.Gj.mpr ⟨q1,q2,e⟩))).1
 have new3:=(N3 (Dd,PySem.W.listOf us.toArray c3) List.mem_cons_self).1;have ns3:∀m',h2.Ns X.env.locals m'->h3.Ns X.env.locals m':=λm' hm'=>by have e1:=F2.ns.eq_nsMap;have e2:=hm'.eq_nsMap;rw [e2,<-e1];exact F3.ns
 have I3:=Zt I2 K.fd keep3 (λ_ _=>⟨_,new3⟩) ns3;have hge:X.s₀.heap.objs.size<=Dd∨Dd∈X.ex:=K.fd.2.2.2.1.symm;have hge':X.s₀.heap.objs.size<=Dd:=by
  rcases hge with z | z
  ·exact z
  ·exact K.dge
 exact ⟨.ref Dd,_,Zx I3 K.fd.1 hge' K.fd.2.1 K.fd.2.2.2.2.1 K.fd.2.2.2.2.2 (o:=.lst ws) ⟨by rw [v.length,sizeLine_eq];lia,us,c3,v,new3⟩,rfl,Ls K.sim r h _ K.fd.1⟩
end
section
variable {X:Cx} {pins:List (Addr×Obj)} {σ:St} {N:List Str} {scope:Scope} {caps:List Nat} {x:Str} {f:Addr} {A:Around} {a:Wd} {S:DSt} {body:Expr} {te:DE} {params:Arguments} {pm ctv:Value} {c':Addr} {ob oc:Obj} {vs0:Array Value} {t0:Tok} {Q:VK}
theorem ZDA {n:Nat} {vs:List Value} (v:Vals ((List.range n).map λ(i:Nat)=>V.int (i:Int)) vs) (t:Nat) (u:Value) (h:vs[t]? =some u):∃tk,u=Value.int ((0 + t:Nat):Int) tk:=by
 have hl:vs.length=n:=by have:=v.length;simpa using this.symm
 have ht:t < n:=by rw [<-hl];exact (List.getElem?_eq_some_iff.mp h).1
 obtain ⟨u',hu,r⟩:=v.get (i:=t) (x:=V.int (t:Int)) (by rw [List.getElem?_map,List.getElem?_range ht];rfl);rw [h] at hu;cases hu;obtain ⟨tk,rfl⟩:=r;exact ⟨tk,by simp⟩
theorem ZLE (cs:CompSc X N scope 1 caps) (hN:N[0]? =some x) (hx:scope.names.lookup x=some .local) (hco:scope.isCoroutine=false) (hgen:scope.isGenerator=false) (hk:a.K=X.K) (rS:RepS a S σ) (hp:(f,ob)∈pins)
  (hd:ob.data=.func (PySem.W.kla_fn "<lambda>" Cz params body scope (Cq X.env scope.names []) pm (.ref c') ctv)) (hc1:a.H c'=some (.frz oc (.own 0))) (hc2:oc.data=.fields vs0) (hc3:vs0[1]? =some (.str Cz t0))
  (hbind:∀u,bindArgs (PySem.W.kla_fn "<lambda>" Cz params body scope (Cq X.env scope.names []) pm (.ref c') ctv) ⟨[u],[]⟩=pure [(x,u)])
  {k:Nat} (hr:Room (k + 1) A) (hfr:A.frames=some X.stack) (he:∀s H,Room k (A.deeper (Kq X Cz scope f (.ref c') s.heap.objs.size))->QE (Mj X N Cz scope f (.ref c') A s H) E0 body te)
  {s:Shared} {h1:Heap} {tk n:Nat} {Dd:Addr} {vs:List Value} {G:DH} (I:Inv X pins σ a.H s) (sm:Sim a G) (hD:s.heap.objs.size<=Dd) (oD:h1.get? Dd=some (seqObj "list" vs.toArray 0)) (k1:∀b o,s.heap.get? b=some o->h1.get? b=some o) (v:Vals ((List.range n).map λ(i:Nat)=>V.int (i:Int)) vs) (n1:1<=n) (n64:n < 64)
  (h:out E0 a ((Gm te caps S n 0 G).bind λks G2=>.ok (.ref G2.length) (G2++ [.lst (Er ks)])) Q) {E:Value->Shared->Prop}:
  wpAny (model X.prog X.w) A (ksk_tree Dd (.ref f) true) (λfin s'=>fin=PySem.Fin.done (.ret .none)/\EP X pins σ Q (.ref Dd) s') E {s with heap:=h1,toks:=tk}:=by
 have hl:vs.length=n:=by have:=v.length;simpa using this.symm
 obtain ⟨m,hn,_⟩:=id I.loc;have hns1:h1.Ns X.env.locals m:=hn.keeps k1;have fD:FpOk X pins a.H Dd:=I.Hy hD (I.hok.fresh hD);have dge:X.s₀.heap.objs.size<=Dd:=Nat.le_trans I.sz hD;have nsOf:∀{h3:Heap},h3.Ns X.env.locals m->∀m',s.heap.Ns X.env.locals m'->h3.Ns X.env.locals m':=λ{h3} hh m' hm'=>by have e1:=hn.eq_nsMap;have e2:=hm'.eq_nsMap;rw [e2,<-e1];exact hh
 have rg:∀b:Wd,Reps b (Bf 0 n) ((List.range n).map λ(i:Nat)=>V.int (i:Int)):=λb=>by have:=ZBy (a:=b) n 0;rw [<-List.range_eq_range'] at this;exact this
 have start:∀kS e1 h',s.heap.objs.size<=kS->Dd≠kS->h'.get? kS=some (seqObj "list" #[] 0)->h'.get? Dd=some (seqObj "list" #[] e1)->(∀b o,b≠X.env.locals->s.heap.get? b=some o->h'.get? b=some o)->h'.Ns X.env.locals m->
   KS X pins σ Dd kS e1 m a a G [] [] 0 {s with heap:=h',toks:=tk}:=λkS e1 h' q1 q2 q3 q4 q5 q6=>
  ⟨ZKn I q5 (nsOf q6),Ext.refl a,sm,q6,q3,q4,I.Hy q1 (I.hok.fresh q1),fD,q2,dge,.nil⟩
 have old:∀b o,s.heap.get? b=some o->b≠Dd:=λb o e=>Nat.ne_of_lt (Nat.lt_of_lt_of_le (Heap.lt_size e) hD)
 have h':out E0 a ((Gm te caps S vs.length 0 G).bind λzs G2=>(λks G2=>R.ok (D.ref (List.length G2)) (G2++ [DO.lst (Er ks)])) ([]++zs) G2) Q:=by rw [hl];exact h
 by_cases hn2:n < 2
 ·have hn1:n=1:=by lia
  subst hn1;obtain ⟨u,rfl⟩:∃u,vs= [u]:=by
   match vs,hl with
   | [u],_=>exact ⟨u,rfl⟩
  refine ZJk (h₀:=Att.Jc h1) (m:=m) (L:=X.env.locals) oD hns1.lt λkS e1 h2 q1 q2 q3 q4 q5=> ?_
  refine Yy (Q:=Q) (n0:=1) (g:=λks G2=>R.ok (D.ref (List.length G2)) (G2++ [DO.lst (Er ks)])) cs hN hx hco hgen hk rS hp hd hc1 hc2 hc3 hbind hr hfr he rfl (λb G2 ks kz e s2 K hkl hq=> ?_) [u] 0 a G [] [] 0 _
   (start kS e1 h2 (Nat.le_trans hD (Nat.le_of_lt q1)) (Nat.ne_of_lt q1) q3 q4 (λb o _ e=>q5 b o (old b o e) (k1 b o e)) (hns1.at λo e=>q5 _ o (Ne.symm fD.2.1) e)) rfl (ZDA v) h'
  have es:Er kz=Bf 0 1:=by unfold Er;rw [hkl,if_pos (by decide)]
  rw [es] at hq;have:=ZDp (Q:=Q) (h₀:=Att.Jc h1) K rfl (rg b) v (by simp) hq;exact this.mono λs4 z=>⟨rfl,z⟩
 ·have hl2:2<=vs.length:=by lia
  refine PySem.W.kat_keyed (s:={s with heap:=h1,toks:=tk}) (Att.ZJH hns1) (news:=Att.ledger h1 X.env.locals Dd) ?_ oD fD.2.1 (Att.Ko _ _) (λ⟨_,_⟩ hp=>(Att.Gj.mp hp).2.1) hl2 (by lia) λkS e1 h2 F2 N2 q1 q2=> ?_
  ·rintro ⟨b,o⟩ hp;obtain ⟨n1,n2,e⟩:=Att.Gj.mp hp;exact ⟨e,n1,Att.Ko _ _⟩
  have hL:X.env.locals < s.heap.objs.size:=I.lt;have K0:=start kS e1 h2 (Nat.le_trans hD (Nat.le_of_lt q1)) (Nat.ne_of_lt q1) (N2 _ List.mem_cons_self).1 (N2 _ (List.mem_cons_of_mem _ List.mem_cons_self)).1 (λb o hb e=>(N2 (b,o) (List.mem_cons_of_mem _ (List.mem_cons_of_mem _ (Att.Gj.mpr ⟨hb,old b o e,k1 b o e⟩)))).1) F2.ns;refine Yy (Q:=Q) (n0:=n) (g:=λks G2=>R.ok (D.ref (List.length G2)) (G2++ [DO.lst (Er ks)])) cs hN hx hco hgen hk rS hp hd hc1 hc2 hc3 hbind hr hfr he rfl (λb G2 ks kz e s2 K hkl hq=> ?_) vs 0 a G [] [] 0 _ K0 (by simpa using hl) (ZDA v) h'
  have hks:ks.length=n:=by rw [K.iz.length];exact hkl
  have es:Er kz=((Hu (ltK kz.reverse) (PySem.W.kas_sort n)).toList.map λi=>(Bf 0 n).reverse.getD i .non).reverse:=by unfold Er;rw [hkl,if_neg hn2]
  rw [es] at hq;rw [PyProof.Rows.ksk_kind (keys:=ks.toArray) (kz:=kz) K.iz (by rw [List.size_toArray,hks];lia)];refine wpAny_pure ?_;rw [hl];have hpos:0 < n:=by lia
  refine ZBT (lt:=ltK kz.reverse) (λi j hi hj C hC=> ?_) (Zm hpos) ?_
  ·unfold PySem.W.kas_ask PySem.W.katRev;rw [if_pos rfl];have rz:=ZBD K.iz;obtain ⟨t1,e1⟩:=X8 rz i (by simpa [hkl] using hi);obtain ⟨t2,e2⟩:=X8 rz j (by simpa [hkl] using hj);rw [e1,e2];exact PySem.W.kat_lt_int hC
  ·have hen:Ents n (Hu (ltK kz.reverse) (PySem.W.kas_sort n)):=Xp (Zm hpos);have hin:∀i∈(Hu (ltK kz.reverse) (PySem.W.kas_sort n)).toList,i < n:=λi hi=>hen.lt (by simpa using hi)
   have hsz:(Hu (ltK kz.reverse) (PySem.W.kas_sort n)).size=n:=by have:=hen.2.size_eq;simpa using this
   unfold PySem.W.katRev;rw [if_pos rfl,if_pos rfl];have:=ZDp (Q:=Q) (h₀:=Att.Jc h1) K rfl (Reps.rev (ZBl (rg b).rev _ λi hi=>by simpa [Bf] using hin i hi)) (Vals.rev (ZCf (Vals.rev v) _ λi hi=>by simpa using hin i hi)) (by simpa [hsz] using n64) hq;exact this.mono λs4 z=>⟨rfl,z⟩
end
section
open Classical in
noncomputable def We (C m:Str) (tn:DA) (caps:List Nat) (te:DE):DE:=λS G=>(tn S G).bind λds G1=>match ds with
 | [.int j]=>if (1<=j/\j < 64)/\DO.tab C m∈G1 then (Gm te caps S j.toNat 0 G1).bind λks G2=>.ok (.ref G2.length) (G2++ [.lst (Er ks)]) else .bad
 | _=>.bad
section
variable {X:Cx} {N:List Str} {scope:Scope} {caps:List Nat} {x:Str} {body:Expr} {te:DE} {params:Arguments} {e:Expr} {tn:DA} {p p' pos pos' lp kp kp' cp:Pos} {C m:Str} {cj:Nat}
theorem ZI5 (hc:X.calm=true) (hg:Gl X "sorted") (hm:X.mg "sorted"=none) (hg2:Gl X "range") (hm2:X.mg "range"=none) (ha:QA X E0 [e] tn) (cs:CompSc X N scope 1 caps) (hN:N[0]? =some x) (hx:scope.names.lookup x=some .local) (hco:scope.isCoroutine=false) (hgen:scope.isGenerator=false)
  (hbind:∀(cl:List (Str×Addr)) (pm ctv:Value) (c':Addr) (u:Value),bindArgs (PySem.W.kla_fn "<lambda>" Cz params body scope cl pm (.ref c') ctv) ⟨[u],[]⟩=pure [(x,u)])
  (hq:X.env.qual++"<lambda>"=Cz) (hdef:defaultsOf params X.env=([],[])) (B:BMd X.base X.mg) (hcode:∀c P,TabAt X.K C m c P->X.env.code=.ref c) (hr:Room (k + 3) X.A)
  (he:∀f c' A s H,Room k (A.deeper (Kq X Cz scope f (.ref c') s.heap.objs.size))->QE (Mj X N Cz scope f (.ref c') A s H) E0 body te)
  (hs:starEach [e] X.env= [(false,eval e X.env)]:=by rfl) (hs2:starEach [.Call (.Name "range" p') [e] [] pos'] X.env= [(false,eval (.Call (.Name "range" p') [e] [] pos') X.env)]:=by rfl):
  QE X E0 (.Call (.Name "sorted" p) [.Call (.Name "range" p') [e] [] pos'] [⟨some "key",.Lambda params body scope lp,kp⟩,⟨some "reverse",.Constant (.bool true) cj cp,kp'⟩] pos) (We C m tn caps te):=by
 intro pins s σ H Q I h;obtain ⟨a,S,G,hk,rfl,sm,r,h⟩:=h;refine wpAny_Call_Name_kw (Ij I hg hm ZIj (ZHR rfl ?_ (by rw [hs2];rfl) rfl hs2));rw [hs2];refine Calls.spliced_cons (Call_ (Ij I hg2 hm2 PyProof.Rows.boot_range (PyProof.Rows.callWith_type1 (thn (ha pos' pins s σ a.H _ I ⟨a,S,G,hk,rfl,sm,r,(Ka h).imp λ_ _ z=>z⟩) λus s1 ⟨vs,H1,I1,r1,q1⟩=> ?_) hs rfl)));obtain ⟨b,ds,G1,rfl,x1,sm1,rd,-,h1⟩:=q1;split at h1
 rotate_left
 ·exact h1.elim
 rename_i j;split at h1
 rotate_left
 ·exact h1.elim
 rename_i hj;obtain ⟨⟨j1,j2⟩,hmem⟩:=hj;obtain ⟨v,rfl,rv⟩:=reps1 rd
 cases (show v=V.int j from rv)
 obtain ⟨u,rfl,ru⟩:=r1.one;obtain ⟨t,rfl⟩:=ru;refine call_range_1 (Calls.spliced_nil ?_)
 have hsz:Builtin.Range.rangeSize 0 j 1=(j.toNat:Int):=by rw [rangeSize_one];split <;> lia
 have kb:b.K=X.K:=x1.k.trans hk;have I2:=I1.kept (t':=s1.toks + 1 + 1) (h':=s1.heap.push {cls:=.type "range",data:=.fields #[.int 0 s1.toks,.int j t,.int 1 (s1.toks + 1)]}) λb o e=>Heap.get?_push_of_some _ e
 have hro:=IsRange.new s1.heap 0 j 1 s1.toks t (s1.toks + 1);generalize hrO:({cls:=.type "range",data:=.fields #[.int 0 s1.toks,.int j t,.int 1 (s1.toks + 1)]}:Obj)=ro at *;have I3:Inv X ((s1.heap.objs.size,ro)::pins) σ b.H {s1 with heap:=s1.heap.push ro,toks:=s1.toks + 1 + 1}:=I2.Gk λp hp=>by
  rcases List.mem_cons.mp hp with rfl | hp
  ·exact ⟨by rw [<-hrO];exact Heap.get?_push_size _ rfl,I1.hok.fresh (Nat.le_refl _),Nat.ne_of_gt I1.lt,I1.nofs (Nat.le_refl _),λv z=>by rw [<-hrO] at z;cases z⟩
  ·exact I2.pin p (List.mem_append_right _ hp)
 obtain ⟨ti,hti⟩:=List.getElem?_of_mem hmem;obtain ⟨c,P,ta,tok⟩:=sm1.obj ti _ hti;rw [kb] at ta;have ecode:=hcode c P ta;have ehd:PySem.W.codeHdIn X.K c P=true:=by obtain ⟨_,_,_,_,_,_,_,_,_,_,z⟩:=ta;exact z
 refine wpAny_evalAll_cons (wpAny_bind (ZLH (pos:=lp) I3 (ZAW (cs.cells I3.ok)) ecode ehd tok B hq hdef λb2 f c' ctv ob oc vs0 t0 s2 x2 sm2 I4 hob hc1 hc2 hc3=>wpAny_bind (wpAny_standAt (wpAny_pure ?_))));have sm2':=sm2 G1 sm1;refine wpAny_evalAll_cons (wpAny_bind (thn (Hh (X:=X) (E:=E0) (i:=true) (j:=cj) (pos:=cp) _ s2 σ b2.H (λv H'=>v=.bl true/\∃b3:Wd,b3.H=H'/\Ext b2 b3/\Sim b3 G1) I4 ⟨b2,S,G1,x2.k.trans kb,rfl,sm2',(r.mono x1).mono x2,λb3 v x3 s3 r3=>⟨r3,b3,rfl,x3,s3⟩⟩) λu3 s3 h3=>wpAny_bind (wpAny_standAt (wpAny_pure (wpAny_evalAll_nil ?_)))))
 obtain ⟨v3,H3,I5,ru3,rfl,b3,rfl,x3,sm3⟩:=h3;obtain rfl:u3=Value.bool true:=ru3;have rng:IsRange s3.heap s1.heap.objs.size 0 j 1 s1.toks t (s1.toks + 1):=by have:=(I5.pin (s1.heap.objs.size,ro) (List.mem_append_right _ (by simp))).1;rw [<-hrO] at this;exact this
 show wpAny _ X.A (call (.builtin "sorted") [.ref s1.heap.objs.size] [("key",.ref f),("reverse",.bool true)]) _ _ s3;refine ZH6 (I.ok.hd hc) rng (small_one (by decide) (by decide) (by lia) (by lia)) hsz (by lia) λD h1' tk vs hD oD k1 vv=> ?_
 refine wpAny_mono (ZLE (pins:=(f,ob)::(s1.heap.objs.size,ro)::pins) cs hN hx hco hgen (x3.k.trans (x2.k.trans kb)) (((r.mono x1).mono x2).mono x3) List.mem_cons_self hob (x3.frz _ _ _ hc1) hc2 hc3 (λu=>hbind _ _ _ _ u) hr.in1.in1 I5.ok.frames (λs' H'=>he f c' X.A.in1.in1 s' H') I5 sm3 hD oD k1 vv (by lia) (by lia) (h1.mono (x2.trans x3))) (λfin s4 hf=>⟨hf.1,?_⟩) λ_ _ z=>z
 obtain ⟨v4,H4,I6,r4,q4⟩:=hf.2;exact ⟨v4,H4,I6.Gk λp hp=>I6.pin p (List.mem_append_right _ (List.mem_cons_of_mem _ (List.mem_cons_of_mem _ hp))),r4,q4⟩
end
theorem ZJT {P:Program} {w:World} {K:PySem.W.Frag} {mg:Str->Option Value} {base:Heap} {qual:Str} {st:Stmt} {f:Addr} {fd:FuncData} {N ps:List Str} {b:DS} (F:Fun K x qual st f fd) (S:FnScope N ps (Az st))
  (hbody:∀(cdv:Value) (A:Around) (outer:List Env) (s:Shared) (H:Hp) (E:XK),fd.code=cdv->Room k (A.deeper (envOfC qual (Az st) s.heap.objs.size f cdv))->QSs (Jv CX0 P w K mg base N qual (Az st) f cdv A outer s H E).nox E0 (H9 st) b):
  FnOk P w K mg base CX0 (k + 1) f fd ps (lF K (Bt ps.length (N.length - ps.length) b)):=by
 have hlen:∀vs H Q E,lF K (Bt ps.length (N.length - ps.length) b) vs H Q E->vs.length=ps.length:=λvs H Q E h=>by
  obtain ⟨a,G,ds,hk,rfl,sm,r,h⟩:=h;unfold Bt at h;split at h
  ·rename_i hl;rw [<-r.length];exact hl
  ·exact h.elim
 obtain ⟨oc,od,kV,doc,pm,an,cdv,ct,osl,rfl,lk,hcd⟩:=F.ex;refine ZA2 lk hcd S hlen λA outer s H vs Q E hr h=>⟨lS K E0 b,PSs.nox (hbody cdv A outer s H E rfl hr),?_⟩
 have hl:=hlen vs H Q E h;obtain ⟨a,G,ds,hk,rfl,sm,r,h⟩:=h;unfold Bt at h;split at h
 ·have h2:=Xc sm h;refine ⟨a,ds.map some++List.replicate (N.length - ps.length) none,G,hk,rfl,sm,ZDf r _ _ (by rw [hl]),?_⟩
  revert h2
  cases b (ds.map some++List.replicate (N.length - ps.length) none) G with
  | nx S1 G1=>exact λh2 c σ x s1 _=>h2 c .non x s1 rfl
  | rt d G1=>exact λh2=>h2
  | err e G1=>exact λh2=>h2
  | bk S1 G1=>exact λh2=>h2.elim
  | ct S1 G1=>exact λh2=>h2.elim
  | bad=>exact λh2=>h2
 ·exact h.elim
end
noncomputable def OnlyT (T:Addr) (H:Hp):Prop:=∀b,H b=none∨(∃o xs,H b=some (.frz o (.lst xs)))∨(b=T/\H b=some (.tbl #[]))
theorem ZLP {P:Program} {w:World} {K:PySem.W.Frag} {mg mb:Str->Option Value} {fa a T c:Addr} {fd:FuncData} {sp:Sp} {s₁:Shared} {vs:List Value} {ns:List Int}
  (KX:K.In s₁.heap) (hns:s₁.heap.Ns mainGlobals mg) (hb:s₁.heap.Ns builtinsNs mb) (hbb:∀x:Str,x≠"__name__"->mb x=bootBuiltins x) (hlim:s₁.heap.NoLimit) (hg:s₁.gens= #[]) (bm:BMd s₁.heap mg)
  (ha:s₁.heap.get? a=some {cls:=.type "list",data:=.seq vs.toArray}) (hi:IntsAre vs ns) (hl:ns.length<=sizeLine) (hr:Room k callerA)
  (hT:s₁.heap.get? T=some (PySem.W.tabObj #[])) (hC:PySem.W.codeHdIn K c T=true) (hK:PySem.W.noTabs K=true)
  (F:∀base:Heap,K.In base->base.Ns mainGlobals mg->BMd base mg->FnOk P w K mg base CX0 k fa fd [x] sp) (hbind:∀(s:Shared) (u:Value),BindsTo s fd ⟨[u],[]⟩ [(x,u)])
  (hsp:∀H:Hp,OnlyT T H->H T=some (.tbl #[])->SqL K H a (ns.map V.int)->sp [.ref a] H (λv _=>v=.bl true) λ_ _ _=>False):
  codeAny (model P w) callerA (.call (.ref fa) ⟨[.ref a],[]⟩) (λr s'=>r=.ok (.ret (.bool true))/\OldK s₁.heap s'.heap/\s'.os=s₁.os/\AllBare s'.gens) s₁:=by
 have rv:=L2.Rq hi;have lenV:=hi.length;have hKT:K.lookup T=none:=by
  cases q:K.lookup T with
  | none=>rfl
  | some o=>
   have e:=KX T o q;rw [hT] at e;cases e;have h2:=List.all_eq_true.mp hK (T,PySem.W.tabObj #[]) (PySem.W.mem_of_lookupK q)
   exact absurd (show false=true from h2) Bool.false_ne_true
 have haT:a≠T:=λz=>by rw [z,hT] at ha;cases ha
 have core:∀H:Hp,OnlyT T H->H T=some (.tbl #[])->SqL K H a (ns.map V.int)->HOk P w H s₁.heap->(∀b,H b≠none->b=a∨b=T)->(H a≠none->K.lookup a=none)->
   codeAny (model P w) callerA (.call (.ref fa) ⟨[.ref a],[]⟩) (λr s'=>r=.ok (.ret (.bool true))/\OldK s₁.heap s'.heap/\s'.os=s₁.os/\AllBare s'.gens) s₁:=by
  intro H hO hHT hS hok hA hKa;have base_of:∀{b:Addr} {o:Obj},s₁.heap.get? b=some o->H b=none->(Hw s₁.heap H).get? b=some o:=λe n=>ZEH e n
  have noA:∀{b:Addr} {o:Obj},s₁.heap.get? b=some o->(∀us n,o.data≠ .seq us n)->(∀us,o.data≠ .fields us)->H b=none:=λ{b o} e d1 d2=>by
   cases q:H b with
   | none=>rfl
   | some u=>
    rcases hA b (by rw [q];simp) with e' | e'
    ·subst e';rw [ha] at e;cases e;exact absurd rfl (d1 _ _)
    ·subst e';rw [hT] at e;cases e;exact absurd rfl (d2 _)
  have nsK:∀{b:Addr} {m:Str->Option Value},s₁.heap.Ns b m->(Hw s₁.heap H).Ns b m:=λ{b m} ⟨o,es,ep,e,d,r⟩=>⟨o,es,ep,base_of e (noA e (λ_ _ z=>by rw [d] at z;cases z) λ_ z=>by rw [d] at z;cases z),d,r⟩
  have hKb:K.In (Hw s₁.heap H):=λb o e=>base_of (KX b o e) (by
   cases q:H b with
   | none=>rfl
   | some u=>
    rcases hA b (by rw [q];simp) with e' | e'
    ·subst e';rw [hKa (by rw [q];simp)] at e;cases e
    ·subst e';rw [hKT] at e;cases e)
  have hM:Mod K mg (Hw s₁.heap H):=⟨hKb,nsK hns,⟨mb,nsK hb,hbb⟩,let ⟨mc,h1,h2⟩:=hlim;⟨mc,nsK h1,h2⟩⟩;have hB:BMd (Hw s₁.heap H) mg:=by obtain ⟨m1,ob,b1,b2,b3,b4,b5,b6⟩:=bm;exact ⟨m1,ob,b1,b2,base_of b3 (noA b3 (λ_ _ z=>by rw [b6] at z;cases z) λ_ z=>by rw [b6] at z;cases z),b4,b5,b6⟩
  have e0:Env0 P w K mg (Hw s₁.heap H) callerA [] s₁ H:=⟨rfl,hM,λb o e=>ZKs e,Nat.le_of_eq (ZFf _ _),trivial,λb hb=>absurd (show b∈([]:List Addr) from hb) (by simp),hok,.of_eq hg⟩
  refine codeAny_mono ((F _ hKb (nsK hns) hB).run callerA [] s₁ H ⟨[.ref a],[]⟩ [.ref a] [.ref a] _ _ hr e0 (hbind s₁ (.ref a)) (.cons rfl .nil) (hsp H hO hHT hS)) λr s' h=> ?_
  cases r with
  | error e=>exact False.elim h
  | ok fl=>
   cases fl with
   | next=>exact False.elim h
   | brk=>exact False.elim h
   | cont=>exact False.elim h
   | ret u=>
    obtain ⟨v,H',os,bare,un,hok',r',q⟩:=h;have q':v=.bl true:=q;subst q';obtain rfl:u=Value.bool true:=r';refine ⟨rfl,⟨λb o e=> ?_,λb o e=>un.there b o e (by simp)⟩,os,bare⟩;cases q:H b with
    | none=>exact .inl (un.keep b o e q (by intro z;exact absurd (show b∈([]:List Addr) from z) (by simp)) (by simp))
    | some u=>
     rcases hO b with z | ⟨ob,xs,z⟩ | ⟨rfl,z⟩
     ·rw [q] at z;cases z
     ·have z2:=un.frzs b ob _ z;obtain ⟨e1,_⟩:=hok b _ z;obtain ⟨e2,_⟩:=hok' b _ z2;rw [e] at e1;cases e1;exact .inl e2
     ·obtain ⟨more,z2⟩:=un.tbls b _ z;have e2:s'.heap.get? b=some (PySem.W.tabObj (#[]++more)):=hok' b _ z2;rw [hT] at e;cases e;exact .inr (.inl ⟨((PySem.W.codeHd_of_K KX hC).tab hT).isCodeTable,rfl,#[],more,rfl,e2⟩)
 cases hk:K.lookup a with
 | some o=>
  have e:=KX a o hk;rw [ha] at e;cases e;refine core (λb=>if b=T then some (.tbl #[]) else none) (λb=> ?_) (if_pos rfl) (.inr ⟨_,vs.toArray,_,hk,rfl,rfl,rfl,by rw [List.size_toArray,lenV];exact hl,by simpa using rv⟩) (λb u z=> ?_) (λb z=> ?_) λz=>absurd (if_neg haT) z
  ·by_cases hb:b=T
   ·exact .inr (.inr ⟨hb,if_pos hb⟩)
   ·exact .inl (if_neg hb)
  ·by_cases hb:b=T
   ·have z':=(if_pos hb).symm.trans z;cases z';subst hb;exact hT
   ·have z':=(if_neg hb).symm.trans z;cases z'
  ·by_cases hb:b=T
   ·exact .inr hb
   ·exact absurd (if_neg hb) z
 | none=>
  refine core (λb=>if b=T then some (.tbl #[]) else if b=a then some (.frz {cls:=.type "list",data:=.seq vs.toArray} (.lst (ns.map V.int))) else none) (λb=> ?_) (if_pos rfl) (.inl (.inr ⟨{cls:=.type "list",data:=.seq vs.toArray},(if_neg haT).trans (if_pos rfl)⟩)) (λb u z=> ?_) (λb z=> ?_) λ_=>hk
  ·by_cases hb:b=T
   ·exact .inr (.inr ⟨hb,if_pos hb⟩)
   ·by_cases hb2:b=a
    ·exact .inr (.inl ⟨_,_,(if_neg hb).trans (if_pos hb2)⟩)
    ·exact .inl ((if_neg hb).trans (if_neg hb2))
  ·by_cases hb:b=T
   ·have z':=(if_pos hb).symm.trans z;cases z';subst hb;exact hT
   ·by_cases hb2:b=a
    ·have z':=((if_neg hb).trans (if_pos hb2)).symm.trans z;cases z';subst hb2;exact ⟨ha,by rw [List.length_map];exact hl,vs,_,rv,ha⟩
    ·have z':=((if_neg hb).trans (if_neg hb2)).symm.trans z;cases z'
  ·by_cases hb:b=T
   ·exact .inr hb
   ·by_cases hb2:b=a
    ·exact .inl hb2
    ·exact absurd ((if_neg hb).trans (if_neg hb2)) z
theorem ZFZ {l:PySem.W.OpenLaw} {n:Nat} {q:Program} {loose:List Str} {XP:(Str->Option Value)->Heap->Prop} {YP:World->Heap->Prop} {d:DefRec} {K:World->PySem.W.Frag} {sp:World->Sp} {T:World->Addr}
  (hn:l.most=some n) (hn2:n<=sizeLine) (hdf:d.params.defaults= []) (hr:Room k callerA)
  (hY:∀(w:World) (h:Heap),YP w h->(K w).In h/\h.get? (T w)=some (PySem.W.tabObj #[]))
  (F:∀(w:World) (mg:Str->Option Value) (fa:Addr) (h:Heap),(K w).In h->h.Ns mainGlobals mg->mg d.name=some (.ref fa)->
   ∃(fd:FuncData) (c:Addr),(∀(s:Shared) (u:Value),BindsTo s fd ⟨[u],[]⟩ [(x,u)])/\PySem.W.codeHdIn (K w) c (T w)=true/\PySem.W.noTabs (K w)=true/\
    (∀(H:Hp) (a:Addr) (ns:List Int),ns.length<=n->OnlyT (T w) H->H (T w)=some (.tbl #[])->SqL (K w) H a (ns.map V.int)->sp w [.ref a] H (λv _=>v=.bl true) λ_ _ _=>False)/\
    ∀base:Heap,(K w).In base->base.Ns mainGlobals mg->BMd base mg->FnOk l.prog w (K w) mg base CX0 k fa fd [x] (sp w)):
  PySem.W.WalkO q loose XP YP l.row.toRowW d [] (λf vs=>PySem.call f vs):=by
 refine Att.ZLK hn hdf λw s₀ s₁ mg mb fa o pm cd doc a vs ns G Y ho hd hcd hmg hobj hints hlen hg=> ?_
 obtain ⟨KX,hT⟩:=hY w _ Y;obtain ⟨fd,c,hb,hC,hK,hsp,hF⟩:=F w mg fa _ KX G.T.g hmg;have bm:BMd s₁.heap mg:=by obtain ⟨bm,ob,b1,b2,b3,b4,b5,b6⟩:=G.T.bmain;exact ⟨bm,ob,b1,b2,b3,b4,b5,b6⟩
 exact ZLP KX G.T.g G.T.b G.T.builtins G.T.nolimit hg bm hobj hints (Nat.le_trans hlen hn2) hr hT hC hK hF hb λH h1 h2 h3=>hsp H a ns hlen h1 h2 h3
end DL
namespace DL
open PySem PySem.W L2
variable {h:Heap} {C:Addr} {m:Str} {st:Stmt}
noncomputable def Io:List Obj->Nat->Frag
 | [],_=> []
 | o::r,n=>match o.cls,o.data with
  | .none,.fields _=>Io r (n + 1)
  | _,.freed=>Io r (n + 1)
  | _,_=>(n,o)::Io r (n + 1)
noncomputable def By (h:Heap):Frag:=Io h.objs.toList 0
theorem ZCU {a:Addr} {o:Obj}:∀{l:List Obj} {n:Nat},(Io l n).lookup a=some o->n<=a/\l[a - n]? =some o/\∀x y z,o≠⟨x,y,.freed,z⟩
 | [],n,h=>by cases h
 | p::r,n,h=>by
  have next:(Io r (n + 1)).lookup a=some o->n<=a/\(p::r)[a - n]? =some o/\∀x y z,o≠⟨x,y,.freed,z⟩:=λh=>by obtain ⟨h1,h2,h3⟩:=ZCU h;obtain ⟨k,rfl⟩:=Nat.exists_eq_add_of_le h1;rw [Nat.add_sub_cancel_left] at h2;refine ⟨Nat.le_trans (Nat.le_succ n) h1,?_,h3⟩;rw [show n + 1 + k - n=k + 1 by rw [Nat.add_assoc,Nat.add_sub_cancel_left,Nat.add_comm],List.getElem?_cons_succ];exact h2
  unfold Io at h;split at h
  ·exact next h
  ·exact next h
  ·rename_i hz hf;rw [List.lookup_cons] at h;split at h
   ·rename_i e;have e':a=n:=by simpa using e
    subst e';cases h;refine ⟨Nat.le_refl _,by simp,λx y z q=> ?_⟩;subst q;exact hz rfl
   ·exact next h
theorem ZGs (h:Heap):(By h).In h:=λa o e=>by
 obtain ⟨_,h2,h3⟩:=ZCU e;have h4:h.objs[a]? =some o:=by simpa using h2
 unfold Heap.get?;rw [h4];split
 ·rename_i q;cases q;exact absurd rfl (h3 _ _ _)
 ·rfl
theorem W3:∀(l:List Obj) (n:Nat),noTabs (Io l n)=true
 | [],n=>rfl
 | p::r,n=>by
  unfold Io;split
  ·exact W3 r _
  ·exact W3 r _
  ·rename_i h1 h2;have:=W3 r (n + 1);unfold noTabs at this ⊢;rw [List.all_cons,this,Bool.and_true];split
   ·rename_i vs a b;exact absurd (h2 vs a b) id
   ·rfl
theorem ZFC (h:Heap):noTabs (By h)=true:=W3 _ _
noncomputable def Hd (p:Program) (N:Nat) (w:World):Heap:=match openEnds treeTable p w N with
 | some s=>s.heap
 | none=>default
noncomputable def Stays (p:Program) (N:Nat) (w:World) (h:Heap):Prop:=∀b o,(Hd p N w).get? b=some o->h.get? b=some o
theorem Stays.in {p:Program} {N:Nat} {w:World} (x:Stays p N w h):(By (Hd p N w)).In h:=λa o e=>x a o (ZGs _ a o e)
noncomputable def Uy (p:Program) (N:Nat):Hook:=
 ⟨Heap,λs=>s.heap,Hd p N,Stays p N,λw s e b o q=>by rw [show s.heap=Hd p N w from e];exact q,λw h h' x k b o q=>k b o (x b o q)⟩
section
variable {p q:Program} {loose:List Str} {Xt:Shared->Bool} {N:Nat} {β:Type} {see:Heap->β} {val:β}
theorem ZE6 (E:∀w,(openEnds treeTable p w N).map (λs=>(openSeen q loose (importedModules p.main.body) Xt true s,see s.heap))=some (openGood q loose,val)):
  LeftO p q loose Xt (Uy p N).obs (Uy p N).val N:=λw=>by
 obtain ⟨s,h1,h2⟩:=Option.map_eq_some_iff.mp (E w);show Option.map _ _=some (openGood q loose,Hd p N w);unfold Hd;rw [h1];show some (openSeen q loose (importedModules p.main.body) Xt true s,s.heap)=_;rw [(Prod.mk.inj h2).1]
theorem Qy (E:∀w,(openEnds treeTable p w N).map (λs=>(openSeen q loose (importedModules p.main.body) Xt true s,see s.heap))=some (openGood q loose,val)) (w:World):see (Hd p N w)=val:=by obtain ⟨s,h1,h2⟩:=Option.map_eq_some_iff.mp (E w);unfold Hd;rw [h1];exact (Prod.mk.inj h2).2
end
noncomputable def dOf (s:Stmt):DefRec:=match s with
 | Stmt.FunctionDef n a b _ _ _ s _ _ p=>⟨n,a,b,s,p⟩
 | _=>⟨Str.empty,⟨[],[],none,[],[],none,[]⟩,[],{kind:=.module,names:= [],isGenerator:=false,isCoroutine:=false,more:= []},⟨0,0,0,0⟩⟩
noncomputable abbrev XtOf (l:OpenLaw) (q:Program) (s:Shared):Bool:=xlAt q [] s && recOk l.row.toRowW.records s
theorem holds_top {l:OpenLaw} {q:Program} {loose:List Str} {N:Nat} {β:Type} {see:Heap->β} {val:β} {d:DefRec} (well:l.wellSaid=true)
  (E:∀w,(openEnds treeTable l.prog w N).map (λs=>(openSeen q loose (importedModules l.prog.main.body) (XtOf l q) true s,see s.heap))=some (openGood q loose,val))
  (hdef:defOf q l.row.name=some (d,[])) (hp:l.row.prog.theDef l.row.name=some (d.params,d.body,d.scope)) (hk:kwWritten? d.params.kwonlyargs d.params.kw_defaults=some []) (hwr:(!l.row.writes || l.row.records.isEmpty)=true)
  (ok:(chainsOk q && opensWell l.row.prog && (frees l.row.toRowW && l.row.within.isEmpty))=true) (hb:l.row.prog.bare) (hw:l.row.toRowW.promised)
  (call:WalkO q loose (XL q []) (Stays l.prog N) l.row.toRowW d [] λf vs=>PySem.call f vs):l.Holds:=
 holds_law well λsaid=>holds_open (r:=l.row) (q:=q) (loose:=loose) (Xt:=XtOf l q) (XP:=XL q []) (YP:=Stays l.prog N) (N:=N) (ZE6 E) (Uy l.prog N).of (Uy l.prog N).keeps
  (λs e=>xl_of s (Bool.and_eq_true_iff.mp e).1) XL.keeps hdef hp hk (λs e=>recFacts_of (Bool.and_eq_true_iff.mp e).2) hwr said ok hb hw call
noncomputable def Bs (K:Frag) (n:Str):Addr:=match nsIn K mainGlobals n with
 | some (some (.ref f))=>f
 | _=>0
noncomputable def gOk (K:Frag) (n:Str):Bool:=match nsIn K mainGlobals n with
 | some (some (.ref _))=>true
 | _=>false
theorem ZCu {K:Frag} {n:Str} (h:gOk K n=true):nsIn K mainGlobals n=some (some (.ref (Bs K n))):=by
 unfold gOk at h;unfold Bs;split at h
 ·rename_i e;rw [e]
 ·cases h
noncomputable def Gd (K:Frag) (C:Addr) (m:Str):Addr:=match findIn K (.ref C) m with
 | some (some (.ref f))=>f
 | _=>0
noncomputable def mOk (K:Frag) (C:Addr) (m:Str):Bool:=match findIn K (.ref C) m with
 | some (some (.ref f))=>isFn K (.ref f)
 | _=>false
theorem ZAu {K:Frag} (h:mOk K C m=true):findIn K (.ref C) m=some (some (.ref (Gd K C m)))/\isFn K (.ref (Gd K C m))=true:=by
 unfold mOk at h;unfold Gd;split at h
 ·rename_i e;rw [e];exact ⟨rfl,h⟩
 ·cases h
noncomputable def noF (K:Frag) (C:Addr) (m:Str):Bool:=match findIn K (.ref C) m with
 | some none=>true
 | _=>false
theorem ZK4 {K:Frag} (h:noF K C m=true):findIn K (.ref C) m=some none:=by
 unfold noF at h;split at h
 ·assumption
 ·cases h
noncomputable def zOk (K:Frag) (n:Str):Bool:=match nsIn K mainGlobals n with
 | some none=>true
 | _=>false
theorem ZEC {K:Frag} {n:Str} (h:zOk K n=true):nsIn K mainGlobals n=some none:=by
 unfold zOk at h;split at h
 ·assumption
 ·cases h
noncomputable def Wn (K:Frag) (C:Addr):Bool:=match findIn K (.ref C) "__setattr__" with
 | some (some (.builtin s))=>s == "object.__setattr__"
 | _=>false
theorem ZF7 {K:Frag} (h:Wn K C=true):findIn K (.ref C) "__setattr__"=some (some (.builtin "object.__setattr__")):=by
 unfold Wn at h;split at h
 ·rename_i e;rw [e,beq_iff_eq.mp h]
 ·cases h
noncomputable def iOk (K:Frag) (n:Str) (v:Int):Bool:=match nsIn K mainGlobals n with
 | some (some (.int u _))=>decide (u=v)
 | _=>false
noncomputable def sOk (K:Frag) (n:Str) (v:Str):Bool:=match nsIn K mainGlobals n with
 | some (some (.str u _))=>decide (u=v)
 | _=>false
noncomputable def N7 (K:Frag) (n:Str):Tok:=match nsIn K mainGlobals n with
 | some (some (.int _ t))=>t
 | some (some (.str _ t))=>t
 | _=>0
theorem ZKa {K:Frag} {n:Str} {v:Int} (h:iOk K n v=true):nsIn K mainGlobals n=some (some (.int v (N7 K n))):=by
 unfold iOk at h;unfold N7;split at h
 ·rename_i e;rw [e,of_decide_eq_true h]
 ·cases h
theorem ZF3 {K:Frag} {n:Str} {v:Str} (h:sOk K n v=true):nsIn K mainGlobals n=some (some (.str v (N7 K n))):=by
 unfold sOk at h;unfold N7;split at h
 ·rename_i e;rw [e,of_decide_eq_true h]
 ·cases h
noncomputable def K8 (K:Frag) (f:Addr):Obj:=match K.lookup f with
 | some o=>o
 | none=>⟨.none,none,.plain,#[]⟩
noncomputable def Eb (K:Frag) (f:Addr):FuncData:=match (K8 K f).data with
 | .func fd=>fd
 | _=>default
noncomputable def ZLI:Value->Bool
 | .none=>true
 | _=>false
noncomputable def ZEm:FuncBody->Option (List Stmt)
 | .stmts b=>some b
 | _=>none
noncomputable def Uu (K:Frag) (x q:Str) (f:Addr):Bool:=match K.lookup f with
 | some ⟨_,_,.func fd,_⟩=>decide (fd.name=x) && decide (fd.qualname=q) && (fd.globals == mainGlobals && fd.builtins == builtinsNs && fd.closure.isEmpty && ZLI fd.defaults) && (codeIn K fd.code q && keepIn K (.ref f))
 | _=>false
noncomputable abbrev DefTxt:=Arguments×Option (List Stmt)×Scope
noncomputable def S7 (K:Frag) (f:Addr):DefTxt:=((Eb K f).params,ZEm (Eb K f).body,(Eb K f).scope)
noncomputable def Vo (st:Stmt):DefTxt:=(Li st,some (H9 st),Az st)
noncomputable abbrev FnSaid (K:Frag) (x q:Str) (st:Stmt) (f:Addr):Prop:=
 K.lookup f=some ⟨(K8 K f).cls,(K8 K f).dict,.func (fnOf x q (Li st) (H9 st) (Az st) .none (Eb K f).kwdefaults (Eb K f).doc (Eb K f).pyModule (Eb K f).annotations (Eb K f).code (Eb K f).closureTuple),(K8 K f).slots⟩/\
  codeIn K (Eb K f).code q=true/\keepIn K (.ref f)=true
theorem ZC0 {K:Frag} {x q:Str} {f:Addr} (h:Uu K x q f=true) (t:S7 K f=Vo st):FnSaid K x q st f:=by
 unfold Uu at h;split at h
 ·rename_i oc od fd sl e;have eo:K8 K f=⟨oc,od,.func fd,sl⟩:=by unfold K8;rw [e]
  have ef:Eb K f=fd:=by unfold Eb;rw [eo]
  unfold S7 Vo at t;rw [ef] at t;obtain ⟨t1,t2⟩:=Prod.mk.inj t;obtain ⟨t2,t3⟩:=Prod.mk.inj t2;simp only [Bool.and_eq_true,decide_eq_true_eq,beq_iff_eq,List.isEmpty_iff] at h;obtain ⟨⟨⟨h1,h2⟩,⟨⟨h3,h4⟩,h5⟩,h6⟩,h7,h8⟩:=h;unfold FnSaid;rw [ef,eo,e];refine ⟨?_,h7,h8⟩;obtain ⟨nm,qn,ps,bd,sc,gl,cl,df,kd,dc,pm,an,cd,ct,bl⟩:=fd;dsimp only at t1 t2 t3 h1 h2 h3 h4 h5 h6;subst h1 h2 h3 h4 h5 t1 t3;have h6':df=.none:=by cases df <;> first | rfl | cases h6
  subst h6';have h9:bd=.stmts (H9 st):=by
   cases bd <;> first | (cases t2) | skip
   exact congrArg _ (Option.some.inj t2)
  subst h9
  rfl
 ·cases h
noncomputable def strsOf:List Value->Option (List Str)
 | []=>some []
 | .str s _::r=>(strsOf r).map (s::·)
 | _::_=>none
theorem ZDD:∀{l:List Value} {ss:List Str},strsOf l=some ss->Vals (ss.map V.str) l
 | [],ss,h=>by cases h;exact .nil
 | v::r,ss,h=>by
  unfold strsOf at h;split at h
  ·rename_i q;cases q
  ·rename_i s t r' q;cases q;obtain ⟨ss',h1,rfl⟩:=Option.map_eq_some_iff.mp h;exact .cons ⟨_,rfl⟩ (ZDD h1)
  ·cases h
noncomputable def Zv (K:Frag) (n:Str) (vs:List Str):Bool:=match nsIn K mainGlobals n with
 | some (some (.ref p))=>(match K.lookup p with
   | some ⟨.type t,_,.seq its _,_⟩=>t == "tuple" && decide (strsOf its.toList=some vs) && Nat.ble its.toList.length 1000
   | _=>false)
 | _=>false
noncomputable abbrev GtSaid (K:Frag) (n:Str) (vs:List Str):Prop:=∃(p:Addr) (od:Option Addr) (sl:Array (Option Value)) (k:Nat) (its:List Value),nsIn K mainGlobals n=some (some (.ref p))/\K.lookup p=some ⟨.type "tuple",od,.seq its.toArray k,sl⟩/\its.length<=1000/\Vals (vs.map V.str) its
theorem ZKK {K:Frag} {n:Str} {vs:List Str} (h:Zv K n vs=true):GtSaid K n vs:=by
 unfold Zv at h;split at h
 ·rename_i p e;split at h
  ·rename_i t od its k sl e2;simp only [Bool.and_eq_true,beq_iff_eq,decide_eq_true_eq] at h;obtain ⟨⟨rfl,h2⟩,h3⟩:=h;exact ⟨p,od,sl,k,its.toList,e,by rw [e2],Nat.le_of_ble_eq_true h3,ZDD h2⟩
  ·cases h
 ·cases h
inductive Ask where
 | fn (n:Str) (st:Stmt)
 | mt (c m q:Str) (st:Stmt)
 | cl (c:Str)
 | no (c x:Str)
 | z (n:Str)
 | gi (n:Str) (v:Int)
 | gs (n v:Str)
 | gt (n:Str) (vs:List Str)
noncomputable def Ask.chk (K:Frag):Ask->Bool
 | .fn n _=>gOk K n && Uu K n n (Bs K n)
 | .mt c m q _=>mOk K (Bs K c) m && Uu K m q (Gd K (Bs K c) m)
 | .cl c=>gOk K c && (plainGet K (Bs K c) Str.empty && hasDictIn K (Bs K c) && plainOver K (Bs K c)) && (Wn K (Bs K c) && makesIn K (Bs K c) && keepIn K (.ref (Bs K c)))
 | .no c x=>noF K (Bs K c) x
 | .z n=>zOk K n
 | .gi n v=>iOk K n v
 | .gs n v=>sOk K n v
 | .gt n vs=>Zv K n vs
noncomputable def Ask.txt (K:Frag):Ask->Option DefTxt
 | .fn n _=>some (S7 K (Bs K n))
 | .mt c m _ _=>some (S7 K (Gd K (Bs K c) m))
 | _=>none
noncomputable def Ask.want:Ask->Option DefTxt
 | .fn _ st=>some (Vo st)
 | .mt _ _ _ st=>some (Vo st)
 | _=>none
noncomputable def Ask.Said (K:Frag):Ask->Prop
 | .fn n st=>nsIn K mainGlobals n=some (some (.ref (Bs K n)))/\FnSaid K n n st (Bs K n)
 | .mt c m q st=>findIn K (.ref (Bs K c)) m=some (some (.ref (Gd K (Bs K c) m)))/\isFn K (.ref (Gd K (Bs K c) m))=true/\FnSaid K m q st (Gd K (Bs K c) m)
 | .cl c=>nsIn K mainGlobals c=some (some (.ref (Bs K c)))/\plainGet K (Bs K c) Str.empty=true/\hasDictIn K (Bs K c)=true/\plainOver K (Bs K c)=true/\
   findIn K (.ref (Bs K c)) "__setattr__"=some (some (.builtin "object.__setattr__"))/\makesIn K (Bs K c)=true/\keepIn K (.ref (Bs K c))=true
 | .no c x=>findIn K (.ref (Bs K c)) x=some none
 | .z n=>nsIn K mainGlobals n=some none
 | .gi n v=>nsIn K mainGlobals n=some (some (.int v (N7 K n)))
 | .gs n v=>nsIn K mainGlobals n=some (some (.str v (N7 K n)))
 | .gt n vs=>GtSaid K n vs
theorem Ask.said {K:Frag}:∀{a:Ask},a.chk K=true->a.txt K=a.want->a.Said K
 | .fn n st,h,t=>by obtain ⟨h1,h2⟩:=Bool.and_eq_true_iff.mp h;exact ⟨ZCu h1,ZC0 h2 (Option.some.inj t)⟩
 | .mt c m q st,h,t=>by obtain ⟨h1,h2⟩:=Bool.and_eq_true_iff.mp h;exact ⟨(ZAu h1).1,(ZAu h1).2,ZC0 h2 (Option.some.inj t)⟩
 | .cl c,h,_=>by simp only [Ask.chk,Bool.and_eq_true] at h;obtain ⟨⟨h1,⟨h2,h3⟩,h4⟩,⟨h5,h6⟩,h7⟩:=h;exact ⟨ZCu h1,h2,h3,h4,ZF7 h5,h6,h7⟩
 | .no c x,h,_=>ZK4 h
 | .z n,h,_=>ZEC h
 | .gi n v,h,_=>ZKa h
 | .gs n v,h,_=>ZF3 h
 | .gt n vs,h,_=>ZKK h
noncomputable def AllSaid (K:Frag):List Ask->Prop
 | []=>True
 | a::r=>a.Said K/\AllSaid K r
theorem ZBf {K:Frag}:∀{l:List Ask},(l.all (Ask.chk K),l.map (Ask.txt K))=(true,l.map Ask.want)->AllSaid K l
 | [],_=>trivial
 | a::r,h=>by obtain ⟨h1,h2⟩:=Prod.mk.inj h;rw [List.all_cons] at h1;obtain ⟨h3,h4⟩:=Bool.and_eq_true_iff.mp h1;rw [List.map_cons,List.map_cons] at h2;obtain ⟨h5,h6⟩:=List.cons.inj h2;exact ⟨Ask.said h3 h5,ZBf (by rw [h4,h6])⟩
noncomputable def seeH (l:List Ask) (h:Heap):Bool×List (Option DefTxt):=(l.all (Ask.chk (By h)),l.map (Ask.txt (By h)))
noncomputable abbrev valH (l:List Ask):Bool×List (Option DefTxt):=(true,l.map Ask.want)
noncomputable def FX (K:Frag) (mg:Str->Option Value) (n:Str) (st:Stmt):Prop:=∃f d,Fun K n n st f d/\mg n=some (.ref f)/\keepIn K (.ref f)=true
theorem Fl {K:Frag} {mg:Str->Option Value} {n:Str} (X:K.In h) (G:h.Ns mainGlobals mg) (s:Ask.Said K (.fn n st)):FX K mg n st:=
 ⟨_,_,Z8 (st:=st) s.2.1 s.2.2.1 s.2.2.2,mg_of X G s.1,s.2.2.2⟩
theorem K4 {K:Frag} {c q:Str} (s:Ask.Said K (.mt c m q st)):∃f d,Fun K m q st f d/\findIn K (.ref (Bs K c)) m=some (some (.ref f))/\isFn K (.ref f)=true/\keepIn K (.ref f)=true:=
 ⟨_,_,Z8 (st:=st) s.2.2.1 s.2.2.2.1 s.2.2.2.2,s.1,s.2.1,s.2.2.2.2⟩
theorem ZJI {K:Frag} {x q a:Str} {f:Addr} {fd:FuncData} {s:Shared} {v:Value} (F:Fun K x q st f fd)
  (h:∀(kV doc pm:Value) (an:Option Addr) (cdv ct:Value) (u:Value),bindArgs (fnOf x q (Li st) (H9 st) (Az st) .none kV doc pm an cdv ct) ⟨[u],[]⟩=pure [(a,u)]):BindsTo s fd ⟨[v],[]⟩ [(a,v)]:=by
 obtain ⟨oc,od,kV,doc,pm,an,cdv,ct,osl,rfl,lk,hcd⟩:=F.ex;exact .of_eq (h kV doc pm an cdv ct v)
noncomputable def J6 (K:Frag) (c m:Str):Addr:=match (Eb K (Gd K (Bs K c) m)).code with
 | .ref a=>a
 | _=>0
noncomputable def Nz (K:Frag) (c:Addr):Addr:=match (K8 K c).data with
 | .fields vs=>(match (vs[11]? :Option Value) with | some (.ref P)=>P | _=>0)
 | _=>0
noncomputable def ZFo:Value->Bool
 | .ref _=>true
 | _=>false
noncomputable def Zz (c m:Str) (h:Heap):Bool:=ZFo (Eb (By h) (Gd (By h) (Bs (By h) c) m)).code && codeHdIn (By h) (J6 (By h) c m) (Nz (By h) (J6 (By h) c m)) &&
 (match h.get? (Nz (By h) (J6 (By h) c m)) with
  | some ⟨.none,none,.fields vs,sl⟩=>vs.isEmpty && sl.isEmpty
  | _=>false)
theorem Z3 {c:Str} (e:Zz c m h=true):(Eb (By h) (Gd (By h) (Bs (By h) c) m)).code=.ref (J6 (By h) c m)/\codeHdIn (By h) (J6 (By h) c m) (Nz (By h) (J6 (By h) c m))=true/\
  h.get? (Nz (By h) (J6 (By h) c m))=some (tabObj #[]):=by
 simp only [Zz,Bool.and_eq_true] at e;obtain ⟨⟨e1,e2⟩,e3⟩:=e;refine ⟨?_,e2,?_⟩
 ·unfold J6
  revert e1
  generalize (Eb (By h) (Gd (By h) (Bs (By h) c) m)).code=v;intro e1
  cases v <;> first | rfl | cases e1
 ·split at e3
  ·rename_i vs sl q;rw [q];simp only [Bool.and_eq_true,Array.isEmpty_iff] at e3;obtain ⟨rfl,rfl⟩:=e3
   rfl
  ·cases e3
noncomputable def seeT (c m:Str) (l:List Ask) (h:Heap):Bool×Bool×List (Option DefTxt):=(Zz c m h,seeH l h)
noncomputable abbrev valT (l:List Ask):Bool×Bool×List (Option DefTxt):=(true,valH l)
end DL
namespace Law
open PySem L2 DL
noncomputable def top (i:Nat):Stmt:=PySem.Challenge.pw_sluiceway_k65_whole_no_flow_earns_more.main.body.getD i (.Pass ⟨0,0,0,0⟩)
noncomputable def fuel:Nat:=1000000000000000000000000000000000000000000000000000000000000
noncomputable def inC (s:Stmt) (j:Nat):Stmt:=match s with
 | .ClassDef _ _ _ body _ _ _ _ _ _ _=>body.getD j (.Pass ⟨0,0,0,0⟩)
 | _=>.Pass ⟨0,0,0,0⟩
noncomputable abbrev Uo:Stmt:=top 22
noncomputable abbrev ZA0:List Str:= ["_law_many","_law_arcs","_law_supplies","_law_told","_law_prices","_law_total","_law_one","_law_other_here","_law_most","_law_gain","_law_above"]
theorem Iu:FnScope ZA0 ["_law_many","_law_arcs","_law_supplies","_law_told"] (Az Uo):=⟨rfl,rfl,rfl,by decide +kernel,rfl,by decide +kernel,by decide +kernel⟩
noncomputable abbrev Zn:Stmt:=top 14
noncomputable abbrev ZEG:List Str:= ["_law_cell","_law_prime","_law_many"]
theorem ZGi:FnScope ZEG ["_law_cell","_law_prime","_law_many"] (Az Zn):=⟨rfl,rfl,rfl,by decide +kernel,rfl,by decide +kernel,by decide +kernel⟩
noncomputable abbrev Xa:Stmt:=top 15
noncomputable abbrev ZHX:List Str:= ["_law_cell","_law_kind","_law_scale"]
theorem ZHH:FnScope ZHX ["_law_cell","_law_kind","_law_scale"] (Az Xa):=⟨rfl,rfl,rfl,by decide +kernel,rfl,by decide +kernel,by decide +kernel⟩
noncomputable abbrev Zw:Stmt:=top 12
noncomputable abbrev ZLW:List Str:= ["_law_script","_law_k"]
theorem ZIl:FnScope ZLW ["_law_script","_law_k"] (Az Zw):=⟨rfl,rfl,rfl,by decide +kernel,rfl,by decide +kernel,by decide +kernel⟩
noncomputable abbrev ZAc:Stmt:=top 16
noncomputable abbrev ZHQ:List Str:= ["_law_pool","_law_many","_law_number"]
theorem ZDO:FnScope ZHQ ["_law_pool","_law_many"] (Az ZAc):=⟨rfl,rfl,rfl,by decide +kernel,rfl,by decide +kernel,by decide +kernel⟩
noncomputable abbrev Vq:Stmt:=top 17
noncomputable abbrev ZCD:List Str:= ["_law_pool","_law_many","_law_scale","_law_arcs","_law_k","_law_other_here","_law_node","_law_most","_law_arc","_law_at","_law_supplies"]
theorem Ez:FnScope ZCD ["_law_pool"] (Az Vq):=⟨rfl,rfl,rfl,by decide +kernel,rfl,by decide +kernel,by decide +kernel⟩
noncomputable abbrev Ot:Stmt:=top 18
noncomputable abbrev Z6:List Str:= ["_law_script","_law_cell","_law_kind","_law_scale","_law_many","_law_long","_law_far","_law_arcs","_law_k","_law_one","_law_reach","_law_node","_law_most","_law_arc","_law_at","_law_supplies"]
theorem Dc:FnScope Z6 ["_law_script"] (Az Ot):=⟨rfl,rfl,rfl,by decide +kernel,rfl,by decide +kernel,by decide +kernel⟩
noncomputable abbrev Yw:Stmt:=top 20
noncomputable abbrev ZGB:List Str:= ["_law_cell","_law_k","_law_here","_law_word"]
theorem ZAv:FnScope ZGB ["_law_cell","_law_k","_law_here"] (Az Yw):=⟨rfl,rfl,rfl,by decide +kernel,rfl,by decide +kernel,by decide +kernel⟩
noncomputable abbrev Zk:Stmt:=top 21
noncomputable abbrev ZFX:List Str:= ["_law_many","_law_arcs","_law_supplies","_law_cell","_law_here","_law_total","_law_node","_law_last","_law_k","_law_one","_law_other_here","_law_most","_law_gain","_law_going"]
theorem Ej:FnScope ZFX ["_law_many","_law_arcs","_law_supplies","_law_cell"] (Az Zk):=⟨rfl,rfl,rfl,by decide +kernel,rfl,by decide +kernel,by decide +kernel⟩
noncomputable abbrev Zr:Stmt:=top 13
noncomputable abbrev ZLO:List Str:= ["_law_found"]
theorem ZIm:FnScope ZLO ["_law_found"] (Az Zr):=⟨rfl,rfl,rfl,by decide +kernel,rfl,by decide +kernel,by decide +kernel⟩
noncomputable abbrev Wa:Stmt:=top 19
noncomputable abbrev ZDw:List Str:= ["_law_found","_law_many","_law_arcs"]
theorem ZFS:FnScope ZDw ["_law_found","_law_many","_law_arcs"] (Az Wa):=⟨rfl,rfl,rfl,by decide +kernel,rfl,by decide +kernel,by decide +kernel⟩
noncomputable abbrev Zg:Stmt:=inC (top 10) 1
noncomputable abbrev ZIW:List Str:= ["self","node","end","gain","room"]
theorem ZHK:FnScope ZIW ["self","node","end","gain","room"] (Az Zg):=⟨rfl,rfl,rfl,by decide +kernel,rfl,by decide +kernel,by decide +kernel⟩
noncomputable abbrev Vr:Stmt:=inC (top 10) 0
noncomputable abbrev ZDC:List Str:= ["self","many","arcs","supplies","wide","arc"]
theorem Yt:FnScope ZDC ["self","many","arcs","supplies"] (Az Vr):=⟨rfl,rfl,rfl,by decide +kernel,rfl,by decide +kernel,by decide +kernel⟩
noncomputable abbrev Yx:Stmt:=inC (top 10) 5
noncomputable abbrev ZKN:List Str:= ["self","node","ways","found","link","onward","way"]
theorem Mh:FnScope ZKN ["self","node","ways"] (Az Yx):=⟨rfl,rfl,rfl,by decide +kernel,rfl,by decide +kernel,by decide +kernel⟩
noncomputable abbrev Rv:Stmt:=inC (top 10) 4
noncomputable abbrev ZDU:List Str:= ["self","ways","is_done","node","way"]
theorem Lk:FnScope ZDU ["self"] (Az Rv):=⟨rfl,rfl,rfl,by decide +kernel,rfl,by decide +kernel,by decide +kernel⟩
noncomputable abbrev W0:Stmt:=inC (top 10) 8
noncomputable abbrev ZCK:List Str:= ["self"]
theorem ZEA:FnScope ZCK ["self"] (Az W0):=⟨rfl,rfl,rfl,by decide +kernel,rfl,by decide +kernel,by decide +kernel⟩
noncomputable abbrev Ym:Stmt:=inC (top 10) 2
noncomputable abbrev ZKw:List Str:= ["self","way"]
theorem ZE8:FnScope ZKw ["self","way"] (Az Ym):=⟨rfl,rfl,rfl,by decide +kernel,rfl,by decide +kernel,by decide +kernel⟩
noncomputable abbrev ZAQ:Stmt:=inC (top 10) 3
noncomputable abbrev ZKV:List Str:= ["self","way"]
theorem ZKM:FnScope ZKV ["self","way"] (Az ZAQ):=⟨rfl,rfl,rfl,by decide +kernel,rfl,by decide +kernel,by decide +kernel⟩
noncomputable abbrev Xq:Stmt:=inC (top 10) 7
noncomputable abbrev ZIJ:List Str:= ["self","node","link","cubes","back"]
theorem ZBd:FnScope ZIJ ["self","node","link","cubes"] (Az Xq):=⟨rfl,rfl,rfl,by decide +kernel,rfl,by decide +kernel,by decide +kernel⟩
noncomputable abbrev Ou:Stmt:=inC (top 10) 6
noncomputable abbrev ZAl:List Str:= ["self","ways","nodes","node","link"]
theorem Wb:FnScope ZAl ["self","ways"] (Az Ou):=⟨rfl,rfl,rfl,by decide +kernel,rfl,by decide +kernel,by decide +kernel⟩
noncomputable abbrev Ro:Stmt:=top 9
noncomputable abbrev ZCn:List Str:= ["many","arcs","unbounded","node"]
theorem Yl:FnScope ZCn ["many","arcs"] (Az Ro):=⟨rfl,rfl,rfl,by decide +kernel,rfl,by decide +kernel,by decide +kernel⟩
noncomputable abbrev Pg:Stmt:=top 8
noncomputable abbrev Ze:List Str:= ["many","arcs","supplies","sending","ways","flow","earned"]
theorem Lx:FnScope Ze ["many","arcs","supplies"] (Az Pg):=⟨rfl,rfl,rfl,by decide +kernel,rfl,by decide +kernel,by decide +kernel⟩
noncomputable abbrev V2:Stmt:=top 23
noncomputable abbrev ZFK:List Str:= ["_law_script","_law_many","_law_arcs","_law_supplies","_law_found","_law_bound_here","_law_cell","_law_other_here"]
theorem Je:FnScope ZFK ["_law_script"] (Az V2):=⟨rfl,rfl,rfl,by decide +kernel,rfl,by decide +kernel,by decide +kernel⟩
noncomputable def Wy:DE:=(dOp Bo (dOp An (dV 1) (dV 0)) (dOp An (dV 2) (dV 0)))
noncomputable def Tq:DS:=(Ak (sAs (dOp Dg (dOp Ay (dV 9) (dOp An (dV 4) (dV 7))) (dOp An (dV 4) (dV 6))) (gV 10)) (sIf (Bb (dOp Px (dV 8) (dC .non))) (sAs (dOp Ay (dV 5) (dOp Bo (dV 8) (dFn Uw (Ac (dC (.int 0)) (Ac (dV 10) Ai))))) (gV 5)) (sIf (Bb (dOp Jl (dV 10) (dC (.int 0)))) (sRt (dC .non)) sNx)))
noncomputable def Vi:DS:=(Ak (sAs (Ba (dOp Ay (dV 3) (Ba (dFn Ar (Ac (dC (.int 0)) Ai))))) (gV 4)) (Ak (sAs (dFn Gw (Ac (Ba (Eo (Do rng1 (Ac (dV 0) Ai)) 1 [2,4] (gV 0) Cd Wy)) Ai)) (gV 5)) (Ak (Ds (Eg (dV 1)) (Ff 4 (Bx (gV 6) (Bx (gV 7) (Bx (gV 8) (Bx (gV 9) Gz))))) Tq) (sRt (dV 5)))))
noncomputable def Up:List D->DH->R D:=Bt 4 7 Vi
noncomputable def Fg:DS:=(sRt (dOp Dv (dOp Dv (dOp Bo (dV 0) (dC (.int 48271))) (dV 1)) (dV 2)))
noncomputable def Di:List D->DH->R D:=Bt 3 0 Fg
noncomputable def Mm:DS:=(Ak (sIf (Bb (dOp Fb (dV 1) (dC (.int 3)))) (sRt (dOp Dv (dOp Bo (dV 0) (dC (.int 69621))) (dOp Ay (dOp J7 (dC (.int 10)) (dC (.int 30))) (dC (.int 57))))) sNx) (sRt (dOp Bo (dFn Di (Ac (dV 0) (Ac (dC (.int 10067)) (Ac (dC (.int 5)) Ai)))) (dV 2))))
noncomputable def Jj:List D->DH->R D:=Bt 3 0 Mm
noncomputable def Jt:DS:=(Ak (sIf (Bb (dOp Jg (dV 1) (dFn Dl (Ac (dV 0) Ai)))) (sRt (dOp An (dV 0) (dV 1))) sNx) (sRt (dC (.int 0))))
noncomputable def Gu:List D->DH->R D:=Bt 2 0 Jt
noncomputable def Fi:DS:=(Ak (sAs (dOp An (dV 0) (dC (.int 0))) (gV 2)) (Ak (sAs (dOp Es (dV 2) (dV 1)) (gIx (dV 0) (dC (.int 0)))) (sRt (dOp Dv (dV 2) (dV 1)))))
noncomputable def Dj:List D->DH->R D:=Bt 2 1 Fi
noncomputable def Qp:DS:=(Ak (sAs (dOp Ay (dOp Ay (dV 4) (dC (.int 1))) (dFn Dj (Ac (dV 0) (Ac (dOp Dg (dV 1) (dV 4)) Ai)))) (gV 5)) (sEx (Jq Fp (dV 3) (Ac (dFn Ho (Ac (dV 4) (Ac (dV 5) (Ac (dC .non) (Ac (dOp Dg (dFn Dj (Ac (dV 0) (Ac (dC (.int 1801)) Ai))) (dC (.int 900))) Ai))))) Ai))))
noncomputable def Q3:DS:=(Ak (sAs (dFn Dj (Ac (dV 0) (Ac (dV 1) Ai))) (gV 6)) (Ak (sAs (dOp Ay (dOp Ay (dV 6) (dC (.int 1))) (dFn Dj (Ac (dV 0) (Ac (dOp Dg (dV 1) (dV 6)) Ai)))) (gV 5)) (Ak (sAs (dOp Bo (dFn Dj (Ac (dV 0) (Ac (dC (.int 6)) Ai))) (dV 2)) (gV 7)) (Ak (sIf (Bb (dOp Fb (dV 7) (dOp Bo (dC (.int 5)) (dV 2)))) (sAs (dC .non) (gV 7)) sNx) (Ak (sAs (dFn Ho (Ac (dV 6) (Ac (dV 5) (Ac (dV 7) (Ac (dOp Dg (dFn Dj (Ac (dV 0) (Ac (dC (.int 1801)) Ai))) (dC (.int 900))) Ai))))) (gV 8)) (Ak (sAs (dFn Dj (Ac (dV 0) (Ac (dOp Ay (dFn Dl (Ac (dV 3) Ai)) (dC (.int 1))) Ai))) (gV 9)) (sAs (Cr (dOp Ay (Ba (dOp Ay (Ba (dSl (dV 3) none (some (dV 9)))) (Ba (dFn Ar (Ac (dV 8) Ai))))) (Ba (dSl (dV 3) (some (dV 9)) none)))) (gV 3))))))))
noncomputable def Pb:DE:=(dOp Bo (dFn Dj (Ac (dV 1) (Ac (dC (.int 5)) Ai))) (dV 2))
noncomputable def ZDc:DS:=(sRt (dFn Ho (Ac (dV 1) (Ac (dV 3) (Ac (dV 10) Ai)))))
noncomputable def ZDI:DS:=(Ak (sAs (Eo (Do rng1 (Ac (dV 1) Ai)) 1 [0,2] (gV 0) Cd Pb) (gV 10)) ZDc)
noncomputable def ZDT:DS:=(Ak (Ds (Do rng1 (Ac (dFn Dj (Ac (dV 0) (Ac (dC (.int 11)) Ai))) Ai)) (gV 4) Q3) ZDI)
noncomputable def ZDd:DS:=(Ak (Ds (Do rng1 (Ac (dV 1) Ai)) (gV 4) Qp) ZDT)
noncomputable def ZB6:DS:=(Ak (sAs (Cr (dFn Ar Ai)) (gV 3)) ZDd)
noncomputable def ZCW:DS:=(Ak (sAs (dOp An (Ba (dFn Ar (Ac (dC (.int 1)) (Ac (dC (.int 1)) (Ac (dOp Ay (dOp J7 (dC (.int 10)) (dC (.int 9))) (dC (.int 7))) (Ac (dOp J7 (dC (.int 10)) (dC (.int 30))) Ai)))))) (dFn Dj (Ac (dV 0) (Ac (dC (.int 4)) Ai)))) (gV 2)) ZB6)
noncomputable def Vk:DS:=(Ak (sAs (dOp Ay (dC (.int 1)) (dFn Dj (Ac (dV 0) (Ac (dC (.int 6)) Ai)))) (gV 1)) ZCW)
noncomputable def U0:List D->DH->R D:=Bt 1 10 Vk
noncomputable def N8:DS:=(Ak (sAs (dFn Gu (Ac (dV 0) (Ac (dOp Ay (dC (.int 1)) (dV 8)) Ai))) (gV 9)) (Ak (sAs (dOp Dg (dV 4) (dV 8)) (gV 10)) (Ak (sIf (Bb (dV 5)) (sAs (dFn Lr (Ac (dV 10) (Ac (dC (.int 2)) Ai))) (gV 10)) sNx) (sEx (Jq Fp (dV 7) (Ac (dFn Ho (Ac (dV 8) (Ac (dOp Ay (dOp Ay (dV 8) (dC (.int 1))) (dFn Di (Ac (dV 9) (Ac (dC (.int 10007)) (Ac (dV 10) Ai))))) (Ac (dC .non) (Ac (dOp Bo (dOp Dg (dFn Di (Ac (dV 9) (Ac (dC (.int 10009)) (Ac (dC (.int 19)) Ai)))) (dC (.int 9))) (dV 6)) Ai))))) Ai))))))
noncomputable def Oo:DS:=(Ak (sAs (dFn Di (Ac (dV 9) (Ac (dC (.int 10037)) (Ac (dV 4) Ai)))) (gV 11)) (Ak (sAs (dFn Jj (Ac (dV 9) (Ac (dV 2) (Ac (dV 3) Ai)))) (gV 12)) (Ak (sIf (Bb (dOp Fb (dFn Di (Ac (dV 9) (Ac (dC (.int 10039)) (Ac (dC (.int 7)) Ai)))) (dC (.int 1)))) (sAs (dC .non) (gV 12)) sNx) (Ak (sAs (dFn Ho (Ac (dV 11) (Ac (dOp Ay (dOp Ay (dV 11) (dC (.int 1))) (dFn Di (Ac (dV 9) (Ac (dC (.int 10061)) (Ac (dOp Dg (dV 4) (dV 11)) Ai))))) (Ac (dV 12) (Ac (dOp Bo (dOp Dg (dFn Di (Ac (dV 9) (Ac (dC (.int 10069)) (Ac (dC (.int 19)) Ai)))) (dC (.int 9))) (dV 6)) Ai))))) (gV 13)) (Ak (sAs (dFn Di (Ac (dV 9) (Ac (dC (.int 10079)) (Ac (dOp Ay (dFn Dl (Ac (dV 7) Ai)) (dC (.int 1))) Ai)))) (gV 14)) (sAs (Cr (dOp Ay (Ba (dOp Ay (Ba (dSl (dV 7) none (some (dV 14)))) (Ba (dFn Ar (Ac (dV 13) Ai))))) (Ba (dSl (dV 7) (some (dV 14)) none)))) (gV 7)))))))
noncomputable def U5:DE:=(dFn Jj (Ac (dFn Gu (Ac (dV 1) (Ac (dOp Ay (dC (.int 7)) (dV 0)) Ai))) (Ac (dV 2) (Ac (dV 3) Ai))))
noncomputable def Ut:DE:=(dOp Bo (dOp An (dV 2) (dV 0)) (dFn Q5 (Ac (dOp Fb (dOp Dv (dV 0) (dC (.int 8))) (dOp Dv (dOp Es (dV 1) (dC (.int 7))) (dC (.int 8)))) Ai)))
noncomputable def Wz:DS:=(sRt (dFn Ho (Ac (dV 4) (Ac (dV 7) (Ac (dV 15) Ai)))))
noncomputable def ZAo:DS:=(Ak (sIf (Bb (dV 5)) (sAs (Ba (Eo (Do rng1 (Ac (dV 4) Ai)) 1 [1,15] (gV 0) Cd Ut)) (gV 15)) sNx) Wz)
noncomputable def Uk:DS:=(Ak (sAs (Ba (Eo (Do rng1 (Ac (dV 4) Ai)) 1 [0,2,3] (gV 0) Cd U5)) (gV 15)) ZAo)
noncomputable def Rh:DS:=(Ak (Ds (Eg (Ba (dSl (dV 0) (some (dC (.int 13))) (some (dOp Ay (dC (.int 13)) (dOp An (Ba (dFn Ar (Ac (dC (.int 10)) (Ac (dC (.int 10)) (Ac (dC (.int 10)) (Ac (dC (.int 5)) Ai)))))) (dV 2))))))) (gV 9) Oo) Uk)
noncomputable def ZCB:DS:=(Ak (Ds (Do rng1 (Ac (dV 4) Ai)) (gV 8) N8) Rh)
noncomputable def V7:DS:=(Ak (sAs (Cr (dFn Ar Ai)) (gV 7)) ZCB)
noncomputable def Sx:DS:=(Ak (sAs (dOp An (Ba (dFn Ar (Ac (dC (.int 1)) (Ac (dC (.int 1)) (Ac (dC (.int 100)) Ai))))) (dFn Di (Ac (dV 1) (Ac (dC (.int 10103)) (Ac (dC (.int 3)) Ai))))) (gV 6)) V7)
noncomputable def Ve:DS:=(Ak (sIf (Bb (dV 5)) (sAs (dOp Ay (dC (.int 11)) (dOp Dv (dOp Es (dV 1) (dC (.int 96))) (dC (.int 20)))) (gV 4)) sNx) Sx)
noncomputable def Um:DS:=(Ak (sAs (Vj (dOp Jg (dV 2) (dC (.int 3))) (dOp Fb (dFn Di (Ac (dV 1) (Ac (dC (.int 10271)) (Ac (dC (.int 8)) Ai)))) (dC (.int 1)))) (gV 5)) Ve)
noncomputable def Ux:DS:=(Ak (sIf (Bb (dOp Fb (dV 2) (dC (.int 3)))) (sAs (dOp Ay (dC (.int 1)) (dOp Dv (dOp Es (dV 1) (dC (.int 16))) (dC (.int 2)))) (gV 4)) sNx) Um)
noncomputable def ZDk:DS:=(Ak (sAs (dOp Ay (dC (.int 1)) (dOp Dv (dOp Es (dV 1) (dC (.int 16))) (dC (.int 6)))) (gV 4)) Ux)
noncomputable def Xy:DS:=(Ak (sAs (dOp An (Ba (dFn Ar (Ac (dC (.int 1)) (Ac (dC (.int 1)) (Ac (dOp Ay (dOp J7 (dC (.int 10)) (dC (.int 9))) (dC (.int 7))) (Ac (dOp J7 (dC (.int 10)) (dC (.int 30))) Ai)))))) (dOp Dv (dOp Es (dV 1) (dC (.int 4))) (dC (.int 4)))) (gV 3)) ZDk)
noncomputable def ZBU:DS:=(Ak (sAs (dOp Dv (dV 1) (dC (.int 4))) (gV 2)) Xy)
noncomputable def Zu:DS:=(Ak (sIf (Ii (Bb (Ss Z9 Jg (dC (.int 0)) (dFn Gu (Ac (dV 0) (Ac (dC (.int 1)) Ai))) (dOp J7 (dC (.int 10)) (dC (.int 18)))))) (sRt (dFn U0 (Ac (Cr (dFn Ar (Ac (dFn Gu (Ac (dV 0) (Ac (dC (.int 1)) Ai))) Ai))) Ai))) sNx) ZBU)
noncomputable def O7:DS:=(Ak (sAs (dFn Gu (Ac (dV 0) (Ac (dC (.int 0)) Ai))) (gV 1)) Zu)
noncomputable def Kh:List D->DH->R D:=Bt 1 15 O7
noncomputable def U4:DS:=(Ak (sAs (dFn Di (Ac (dOp Ay (dV 0) (dOp Bo (dV 1) (dV 1))) (Ac (dOp Ay (dC (.int 10163)) (dOp Bo (dC (.int 8)) (dOp Dv (dV 0) (dC (.int 5))))) (Ac (dC (.int 4)) Ai)))) (gV 3)) (Ak (sIf (Bb (dOp Fb (dV 3) (dC (.int 0)))) (sRt (dV 2)) sNx) (Ak (sIf (Bb (dOp Fb (dV 3) (dC (.int 1)))) (sRt (dOp Es (dV 2) (dC (.int 2)))) sNx) (sRt (dFn Lr (Ac (dV 2) (Ac (dOp Dg (dV 3) (dC (.int 2))) Ai)))))))
noncomputable def Rz:List D->DH->R D:=Bt 3 1 U4
noncomputable def M9:DS:=(Ak (sAs (dOp An (dV 1) (dV 8)) (Ff 4 (Bx (gV 9) (Bx (gV 10) (Bx (gV 11) (Bx (gV 12) Gz)))))) (sIf (Bb (dOp Fb (dV 9) (dV 6))) (Ak (sAs (dOp An (dV 4) (dV 6)) (gV 13)) (Ak (sIf (Bb (dOp Px (dV 11) (dC .non))) (sAs (dFn Lr (Ac (dV 11) (Ac (dV 13) Ai))) (gV 13)) (sAs (dV 8) (gV 7))) (Ak (sAs (dFn Rz (Ac (dV 3) (Ac (dV 8) (Ac (dV 13) Ai)))) (gV 13)) (Ak (sAs (dOp Dg (dOp An (dV 4) (dV 6)) (dV 13)) (gIx (dV 4) (dV 6))) (Ak (sAs (dOp Ay (dOp An (dV 4) (dV 10)) (dV 13)) (gIx (dV 4) (dV 10))) (sAs (dOp Ay (dV 5) (dOp Bo (dV 13) (dV 12))) (gV 5))))))) sNx))
noncomputable def Q6:DS:=(Ak (sAs (dC (.int 0)) (gV 7)) (Ak (Ds (Do rng1 (Ac (dFn Dl (Ac (dV 1) Ai)) Ai)) (gV 8) M9) (Ak (sAs (dOp Ay (dOp An (dV 4) (dOp An (dOp An (dV 1) (dV 7)) (dC (.int 1)))) (dOp An (dV 4) (dV 6))) (gIx (dV 4) (dOp An (dOp An (dV 1) (dV 7)) (dC (.int 1))))) (sAs (dOp Ay (dV 5) (dOp Bo (dOp An (dV 4) (dV 6)) (dOp An (dOp An (dV 1) (dV 7)) (dC (.int 3))))) (gV 5)))))
noncomputable def U8:DS:=(Ak (sAs (Cr (dOp Ay (Ba (dFn J9 (Ac (dV 2) Ai))) (Ba (dFn Ar (Ac (dC (.int 0)) Ai))))) (gV 4)) (Ak (sAs (dC (.int 0)) (gV 5)) (Ak (Ds (Do rng1 (Ac (dV 0) Ai)) (gV 6) Q6) (sRt (dV 5)))))
noncomputable def Uq:List D->DH->R D:=Bt 4 10 U8
noncomputable def O1:DS:=(sRt (Vj (dFn Et (Ac (dV 0) (Ac (dC (.ty "int")) Ai))) (Y9 (dFn Et (Ac (dV 0) (Ac (dC (.ty "bool")) Ai))))))
noncomputable def Oe:List D->DH->R D:=Bt 1 0 O1
noncomputable def Zb:DE:=(dFn Oe (Ac (dV 0) Ai))
noncomputable def Tg:DS:=(Ak (sIf (dOr (Ii (Bb (dFn Et (Ac (dV 0) (Ac (dC (.ty "tuple")) Ai))))) (dOr (Bb (dOp Iz (dFn Dl (Ac (dV 0) Ai)) (dC (.int 3)))) (Ii (Bb (dFn Oe (Ac (dOp An (dV 0) (dC (.int 0))) Ai)))))) (sRt (dC (.bl false))) sNx) (Ak (sIf (dOr (Ii (Bb (dFn Et (Ac (dOp An (dV 0) (dC (.int 1))) (Ac (dC (.ty "list")) Ai))))) (Bb (dOp Iz (dFn Dl (Ac (dOp An (dV 0) (dC (.int 1))) Ai)) (dFn Dl (Ac (dV 2) Ai))))) (sRt (dC (.bl false))) sNx) (Ak (sIf (dOr (Ii (Bb (dFn Et (Ac (dOp An (dV 0) (dC (.int 2))) (Ac (dC (.ty "list")) Ai))))) (Bb (dOp Iz (dFn Dl (Ac (dOp An (dV 0) (dC (.int 2))) Ai)) (dV 1)))) (sRt (dC (.bl false))) sNx) (sRt (dFn Mv (Ac (Ba (Eo (Eg (dOp Ay (dOp An (dV 0) (dC (.int 1))) (dOp An (dV 0) (dC (.int 2))))) 1 [] (gV 0) Cd Zb)) Ai))))))
noncomputable def U3:List D->DH->R D:=Bt 3 0 Tg
noncomputable def Om:DS:=(Ak (sEx (Jq Fp (dOp An (Bl "Sending" (dV 0) "links_from") (dV 1)) (Ac (Cr (dFn Dl (Ac (Bl "Sending" (dV 0) "ends") Ai))) Ai))) (Ak (sEx (Jq Fp (Bl "Sending" (dV 0) "ends") (Ac (Cr (dV 2)) Ai))) (Ak (sEx (Jq Fp (Bl "Sending" (dV 0) "worths") (Ac (Cr (dOp Dg (dOp Bo (dV 3) (Bl "Sending" (dV 0) "scale")) (dC (.int 1)))) Ai))) (sEx (Jq Fp (Bl "Sending" (dV 0) "rooms") (Ac (Cr (dV 4)) Ai))))))
noncomputable def Hk:List D->DH->R D:=Bt 5 0 Om
noncomputable def Mi:DE:=(Cr (dFn Ar Ai))
noncomputable def O4:DS:=(Ak (sEx (Fd "Sending" "add_link" Hk (dV 0) (Ac (dOp An (dV 5) (dC (.int 0))) (Ac (dOp An (dV 5) (dC (.int 1))) (Ac (dOp An (dV 5) (dC (.int 3))) (Ac (dIf (Bb (dOp Jd (dOp An (dV 5) (dC (.int 2))) (dC .non))) (dV 4) (dOp An (dV 5) (dC (.int 2)))) Ai)))))) (sEx (Fd "Sending" "add_link" Hk (dV 0) (Ac (dOp An (dV 5) (dC (.int 1))) (Ac (dOp An (dV 5) (dC (.int 0))) (Ac (dUn Ja (dOp An (dV 5) (dC (.int 3)))) (Ac (dC (.int 0)) Ai)))))))
noncomputable def Uj:DS:=(Ak (sAs (dOp Ay (dFn Gw (Ac (dV 3) Ai)) (dC (.int 1))) (gV 4)) (Ak (Eh "Sending" (dV 0) (dOp Ay (dV 1) (dC (.int 1))) "scale") (Ak (Eh "Sending" (dV 0) (Cr (dOp Ay (Ba (dFn J9 (Ac (dV 3) Ai))) (Ba (dFn Ar (Ac (dC (.int 0)) Ai))))) "left") (Ak (Eh "Sending" (dV 0) (Eo (Eg (Bl "Sending" (dV 0) "left")) 1 [] (gV 0) Cd Mi) "links_from") (Ak (Eh "Sending" (dV 0) (Cr (dFn Ar Ai)) "ends") (Ak (Eh "Sending" (dV 0) (Cr (dFn Ar Ai)) "worths") (Ak (Eh "Sending" (dV 0) (Cr (dFn Ar Ai)) "rooms") (Ds (Eg (dV 2)) (gV 5) O4))))))))
noncomputable def Rt:List D->DH->R D:=Bt 4 2 Uj
noncomputable def Qo:DS:=(Ak (sAs (dOp An (dV 2) (dOp An (Bl "Sending" (dV 0) "ends") (dV 4))) (gV 5)) (sIf (V3 (Bb (dOp Jl (dOp An (Bl "Sending" (dV 0) "rooms") (dV 4)) (dC (.int 0)))) (Bb (dOp Px (dV 5) (dC .non)))) (Ak (sAs (dOp Ay (dV 5) (dOp An (Bl "Sending" (dV 0) "worths") (dV 4))) (gV 6)) (sIf (dOr (Bb (dOp Jd (dV 3) (dC .non))) (Bb (dOp Jg (dV 3) (dV 6)))) (sAs (dV 6) (gV 3)) sNx)) sNx))
noncomputable def T5:DS:=(Ak (sAs (dOp An (dV 2) (dV 1)) (gV 3)) (Ak (Ds (Eg (dOp An (Bl "Sending" (dV 0) "links_from") (dV 1))) (gV 4) Qo) (sRt (dV 3))))
noncomputable def Nm:List D->DH->R D:=Bt 3 4 T5
noncomputable def ZBO:DE:=(dC .non)
noncomputable def Pk:DS:=(Ak (sAs (Fd "Sending" "best_way" Nm (dV 0) (Ac (dV 3) (Ac (dV 1) Ai))) (gV 4)) (sIf (Bb (dOp Iz (dV 4) (dOp An (dV 1) (dV 3)))) (Ak (sAs (dV 4) (gIx (dV 1) (dV 3))) (sAs (dC (.bl false)) (gV 2))) sNx))
noncomputable def Qu:DS:=(Ak (sAs (dC (.bl true)) (gV 2)) (Ds (Do rng3 (Ac (dOp Dg (dFn Dl (Ac (dV 1) Ai)) (dC (.int 2))) (Ac (dUn Ja (dC (.int 1))) (Ac (dUn Ja (dC (.int 1))) Ai)))) (gV 3) Pk))
noncomputable def Mu:DB:=(Ii (Bb (dV 2)))
noncomputable def Pr:DS:=(Ak (sAs (Eo (Eg (Bl "Sending" (dV 0) "left")) 1 [] (gV 0) Cd ZBO) (gV 1)) (Ak (sAs (dC (.int 0)) (gIx (dV 1) (dUn Ja (dC (.int 1))))) (Ak (sAs (dC (.bl false)) (gV 2)) (Ak (sWh Mu Qu fuel) (sRt (dV 1))))))
noncomputable def Il:List D->DH->R D:=Bt 1 4 Pr
noncomputable def Yu:DE:=(dV 1)
noncomputable def ZAJ:DB:=(Bb (dOp Fb (dOp Dv (dV 0) (dC (.int 2))) (dC (.int 1))))
noncomputable def Wg:DS:=(sRt (Eo (Do Py (Ac (Bl "Sending" (dV 0) "rooms") Ai)) 2 [] (Ff 2 (Bx (gV 0) (Bx (gV 1) Gz))) ZAJ Yu))
noncomputable def Kd:List D->DH->R D:=Bt 1 0 Wg
noncomputable def V5:DS:=(sRt (dUn Ja (dOp Es (dUn Ja (dV 1)) (Bl "Sending" (dV 0) "scale"))))
noncomputable def K9:List D->DH->R D:=Bt 2 0 V5
noncomputable def W5:DS:=(sRt (dOp Dv (dUn Ja (dV 1)) (Bl "Sending" (dV 0) "scale")))
noncomputable def Ni:List D->DH->R D:=Bt 2 0 W5
noncomputable def Wh:DS:=(Ak (sAs (dIf (Bb (dOp Fb (dOp Dv (dV 2) (dC (.int 2))) (dC (.int 0)))) (dOp Ay (dV 2) (dC (.int 1))) (dOp Dg (dV 2) (dC (.int 1)))) (gV 4)) (Ak (N6 (Bl "Sending" (dV 0) "left") (dV 1) (dV 3) Dg) (Ak (N6 (Bl "Sending" (dV 0) "left") (dOp An (Bl "Sending" (dV 0) "ends") (dV 2)) (dV 3) Qs) (Ak (N6 (Bl "Sending" (dV 0) "rooms") (dV 2) (dV 3) Dg) (N6 (Bl "Sending" (dV 0) "rooms") (dV 4) (dV 3) Qs)))))
noncomputable def Np:List D->DH->R D:=Bt 4 1 Wh
noncomputable def R6:DE:=(Fd "Sending" "links_of" Ni (dV 1) (Ac (dOp An (dV 2) (dV 0)) Ai))
noncomputable def Pz:DS:=(sIf (Bb (dOp Fb (dOp An (dV 1) (dV 3)) (dOp Ay (dOp An (dV 1) (dOp An (Bl "Sending" (dV 0) "ends") (dV 4))) (dOp An (Bl "Sending" (dV 0) "worths") (dV 4))))) (sEx (Fd "Sending" "send_along" Np (dV 0) (Ac (dV 3) (Ac (dV 4) (Ac (dFn Lr (Ac (dOp An (Bl "Sending" (dV 0) "left") (dV 3)) (Ac (dOp An (Bl "Sending" (dV 0) "rooms") (dV 4)) Ai))) Ai))))) sNx)
noncomputable def Th:DS:=(Ds (Eg (dOp An (Bl "Sending" (dV 0) "links_from") (dV 3))) (gV 4) Pz)
noncomputable def W4:DS:=(Ak (sAs (Ba (We "Sending" "send_by" (Ac (dOp Dg (dFn Dl (Ac (dV 1) Ai)) (dC (.int 1))) Ai) [0,1] R6)) (gV 2)) (Ds (Eg (dV 2)) (gV 3) Th))
noncomputable def Ol:List D->DH->R D:=Bt 2 3 W4
noncomputable def Zi:DE:=(dOp An (dV 0) (dC (.int 0)))
noncomputable def Zq:DB:=(Bb (dOp Jd (dOp An (dV 0) (dC (.int 2))) (dC .non)))
noncomputable def O3:DS:=(sIf (Bb (dOp Pa (dV 3) (dV 2))) sBad sNx)
noncomputable def T7:DS:=(Ak (sAs (Ba (Eo (Eg (dV 1)) 1 [] (gV 0) Zq Zi)) (gV 2)) (Ds (Do rng1 (Ac (dV 0) Ai)) (gV 3) O3))
noncomputable def Sg:List D->DH->R D:=Bt 2 2 T7
noncomputable def Nr:DS:=(Ak (sEx (Fd "Sending" "send_by" Ol (dV 3) (Ac (dV 4) Ai))) (sAs (Ba (Fd "Sending" "best_ways" Il (dV 3) Ai)) (gV 4)))
noncomputable def Od:DB:=(Bb (dOp Jl (dFn Gw (Ac (Ba (dSl (Bl "Sending" (dV 3) "left") none (some (dV 0)))) Ai)) (dC (.int 0))))
noncomputable def Xw:DE:=(dOp Bo (dV 0) (dOp An (dV 1) (dC (.int 3))))
noncomputable def Ph:DE:=(Fd "Sending" "gain_of" K9 (dV 1) (Ac (dV 0) Ai))
noncomputable def ZBI:DS:=(sRt (dFn Ho (Ac (dV 6) (Ac (dV 5) (Ac (Ba (Eo (Eg (Ba (dSl (dV 4) none (some (dV 0))))) 1 [3] (gV 0) Cd Ph)) Ai)))))
noncomputable def ZBK:DS:=(Ak (sAs (dFn Gw (Ac (Ba (Eo (Do (Lf 2) (Ac (dV 5) (Ac (dV 1) Ai))) 2 [] (Ff 2 (Bx (gV 0) (Bx (gV 1) Gz))) Cd Xw)) Ai)) (gV 6)) ZBI)
noncomputable def ZDG:DS:=(Ak (sAs (Ba (Fd "Sending" "flow_sent" Kd (dV 3) Ai)) (gV 5)) ZBK)
noncomputable def ZCy:DS:=(Ak (sWh Od Nr fuel) ZDG)
noncomputable def ZCj:DS:=(Ak (sAs (Ba (Fd "Sending" "best_ways" Il (dV 3) Ai)) (gV 4)) ZCy)
noncomputable def ZCR:DS:=(Ak (sAs (Xm "Sending" Rt (Ac (dV 0) (Ac (dV 1) (Ac (dV 2) Ai)))) (gV 3)) ZCj)
noncomputable def Ue:DS:=(Ak (sEx (dFn Sg (Ac (dV 0) (Ac (dV 1) Ai)))) ZCR)
noncomputable def Ny:List D->DH->R D:=Bt 3 4 Ue
noncomputable def Wi:DS:=(Ak (sAs (Ba (dFn Uq (Ac (dV 1) (Ac (dV 2) (Ac (dV 3) (Ac (dV 6) Ai)))))) (gV 7)) (sIf (dOr (Bb (dOp Jl (dV 7) (dOp An (dV 4) (dC (.int 0))))) (Bb (dOp Jl (dV 7) (dV 5)))) (sRt (dC (.bl false))) sNx))
noncomputable def Rj:DS:=(Ak (sAs (Ba (dFn Kh (Ac (dV 0) Ai))) (Ff 3 (Bx (gV 1) (Bx (gV 2) (Bx (gV 3) Gz))))) (Ak (sAs (Ba (dFn Ny (Ac (dV 1) (Ac (Ba (dFn J9 (Ac (dV 2) Ai))) (Ac (Ba (dFn J9 (Ac (dV 3) Ai))) Ai))))) (gV 4)) (Ak (sIf (Ii (Bb (dFn U3 (Ac (dV 4) (Ac (dV 1) (Ac (dV 2) Ai)))))) (sRt (dC (.bl false))) sNx) (Ak (sAs (dFn Up (Ac (dV 1) (Ac (dV 2) (Ac (dV 3) (Ac (dOp An (dV 4) (dC (.int 2))) Ai))))) (gV 5)) (Ak (sIf (dOr (Bb (dOp Jd (dV 5) (dC .non))) (Bb (dOp Iz (dV 5) (dOp An (dV 4) (dC (.int 0)))))) (sRt (dC (.bl false))) sNx) (Ak (Ds (Eg (Ba (dSl (dV 0) (some (dC (.int 26))) (some (dOp Dg (dC (.int 42)) (dOp Bo (dC (.int 12)) (dFn Q5 (Ac (dOp Jl (dV 1) (dC (.int 10))) Ai)))))))) (gV 6) Wi) (sRt (dC (.bl true)))))))))
noncomputable def Jy:List D->DH->R D:=Bt 1 7 Rj
noncomputable def Holds:Prop:=∀ns:List Int,ns.length<=63->∃G,Jy [.fl (ns.map D.int)] [.tab "Sending" "send_by"]=.ok (.bl true) G
end Law
namespace Law
open PySem L2 DL
variable {G L H Γ:DH} {ds A:List D} {S:DSt} {n m i w q j k t u l v:Nat} {f g p:Nat->Int} {c x sc z e wide:Int} {xs s h:List Int} {s0 s2:Option D} {P:List (Option Int)} {lk:Nat->List Nat} {o:DO} {d:D}
noncomputable def cellAt (ns:List Int) (k:Int):Int:=ns.getD k.toNat 0
theorem Rx {ns:List Int} {k:Int} (hk:0<=k):Gu [.fl (ns.map D.int),.int k] G=.ok (.int (cellAt ns k)) G:=by
 unfold Gu Jt cellAt;rw [Ck];by_cases h:k < ns.length
 ·simp [h];rw [Fe (d:=D.int (ns[k.toNat]'(by lia))) (k:=k.toNat) (by lia) (by rw [List.getElem?_map,List.getElem?_eq_getElem (by lia)];rfl)];simp [Dr,List.getElem?_eq_getElem (show k.toNat < ns.length by lia)]
 ·simp [h,Dr,List.getElem?_eq_none (show ns.length<=k.toNat by lia)]
theorem ZFP {A:DO} (h:bels (G.length + 1) ds=true):freeze (G++ [A]) (.ok (.ref (G.length + 1)) (G++A:: .lst ds::L))=.ok (.fl ds) (G++ [A]):=by have:=Cg (G:=G++ [A]) (ds:=ds) (L:=L) (by simpa using h);simpa using this
theorem ZJi {A:DO} (h:bels (G.length + 1) ds=true):tidy (G++ [A]) (.ok (.ref (G.length + 1)) (G++A:: .lst ds::L))=.ok (.ref (G.length + 1)) (G++ [A,.lst ds]):=by have:=Hz (G:=G++ [A]) (ds:=ds) (L:=L) (by simpa using h);simpa using this
theorem Wk {α:Type} {xs:List α} {a:Nat} (h:a<=xs.length):cutD xs none (some (a:Int))=xs.take a:=by
 have:=(Jo xs.length (a:Int)).1;have e:HT.sIx xs.length xs.length (some (a:Int))=a:=by lia
 unfold cutD;rw [e];simp [HT.sIx]
theorem ZHV {α:Type} {xs:List α} {a:Nat} (h:a<=xs.length):cutD xs (some (a:Int)) none=xs.drop a:=by
 have:=(Jo xs.length (a:Int)).2;have e:HT.sIx xs.length 0 (some (a:Int))=a:=by lia
 unfold cutD;rw [e];simp only [HT.sIx];exact List.take_of_length_le (by simp)
theorem ZAd {te:DE} {F:Nat->D} (h:∀k:Nat,k < n->te (S.set 0 (some (.int k))) G=.ok (F k) G):Df (gV 0) Cd te S (Bf 0 n) G=.ok ((List.range n).map F) G:=by
 have e:Bf 0 n=(List.range n).map λ(i:Nat)=>D.int (i:Int):=by
  refine List.ext_getElem? λi=> ?_
  simp [Bf]
 rw [Yj (F:=λd=>match d with | .int i=>some (F i.toNat) | _=>none) (λq hq=> ?_)]
 ·congr 1
  rw [e,List.filterMap_map];show (List.range n).filterMap (λ(i:Nat)=>some (F ((i:Int).toNat)))=_;rw [List.filterMap_eq_map'];simp
 ·rw [e] at hq;obtain ⟨i,hi,rfl⟩:=List.mem_map.mp hq;exact ⟨S.set 0 (some (.int i)),by simp,.inr ⟨rfl,F i,h i (List.mem_range.mp hi),by simp⟩⟩
noncomputable def Ag:Nat->(Nat->Int)->Int
 | 0,_=>0
 | n + 1,f=>Ag n f + f n
theorem Cu:∀{n:Nat},(∀k,k < n->f k=g k)->Ag n f=Ag n g
 | 0,_=>rfl
 | n + 1,h=>by show Ag n f + f n=Ag n g + g n;rw [Cu λk hk=>h k (by lia),h n (by lia)]
theorem Dz:∀(n:Nat),Ag n (λk=>f k + g k)=Ag n f + Ag n g
 | 0=>rfl
 | n + 1=>by show Ag n (λk=>f k + g k) + (f n + g n)=_;rw [Dz n];show _=(Ag n f + f n) + (Ag n g + g n);lia
theorem Gn:∀(n:Nat),Ag n (λ_=>0)=0
 | 0=>rfl
 | n + 1=>by
  show Ag n (λ_=>0) + 0=0;rw [Gn n]
  rfl
theorem Wq:∀(n:Nat),Ag n (λk=>c * f k)=c * Ag n f
 | 0=>by show 0=c * 0;rw [Int.mul_zero]
 | n + 1=>by show Ag n (λk=>c * f k) + c * f n=c * (Ag n f + f n);rw [Wq n,Int.mul_add]
theorem Ea:∀{n:Nat},(∀k,k < n->f k<=g k)->Ag n f<=Ag n g
 | 0,_=>Int.le_refl _
 | n + 1,h=>by
  show Ag n f + f n<=Ag n g + g n;have h1:=Ea (n:=n) λk hk=>h k (by lia)
  have h2:=h n (by lia);lia
theorem Gp {x:Nat->Int}:∀{n u:Nat},u < n->Ag n (λk=>if k=u then x k else 0)=x u
 | 0,u,h=>by lia
 | n + 1,u,h=>by
  show Ag n (λk=>if k=u then x k else 0) + (if n=u then x n else 0)=x u;by_cases e:n=u
  ·subst e;rw [if_pos rfl,Cu (g:=λ_=>0) λk hk=>if_neg (by lia),Gn];lia
  ·rw [if_neg e,Gp (n:=n) (u:=u) (by lia)];lia
theorem Yk {x:Nat->Nat->Int} :∀(n:Nat),Ag n (λu=>Ag m λi=>x u i)=Ag m λi=>Ag n λu=>x u i
 | 0=>by
  show 0=Ag m λi=>0
  rw [Gn]
 | n + 1=>by
  show Ag n (λu=>Ag m λi=>x u i) + Ag m (λi=>x n i)=Ag m λi=>Ag n (λu=>x u i) + x n i
  rw [Yk n,Dz]
structure Arc where
 fr:Nat
 to:Nat
 mo:Option Int
 ga:Int
variable {a:Nat->Arc} {as:List Arc}
noncomputable def Bj (a:Nat->Arc) (m:Nat) (f:Nat->Int) (u:Nat):Int:=Ag m λi=>if (a i).fr=u then f i else 0
noncomputable def inA (a:Nat->Arc) (m:Nat) (f:Nat->Int) (u:Nat):Int:=Ag m λi=>if (a i).to=u then f i else 0
structure Feas (n m:Nat) (a:Nat->Arc) (s f:Nat->Int):Prop where
 nn:∀i,i < m->0<=f i
 le:∀i b,i < m->(a i).mo=some b->f i<=b
 bal:∀u,u < n->Bj a m f u=s u + inA a m f u
structure Slack (m:Nat) (a:Nat->Arc) (f p:Nat->Int):Prop where
 more:∀i,i < m->(∀b,(a i).mo=some b->f i < b)->(a i).ga + p (a i).to<=p (a i).fr
 some_:∀i,i < m->0 < f i->p (a i).fr<=(a i).ga + p (a i).to
noncomputable def J0 (a:Nat->Arc) (m:Nat) (f:Nat->Int):Int:=Ag m λi=>f i * (a i).ga
theorem ZAB {q:Nat->Nat} (h:∀i,i < m->q i < n):Ag m (λi=>f i * p (q i))=Ag n λu=>p u * Ag m λi=>if q i=u then f i else 0:=by
 have e:(λu=>p u * Ag m λi=>if q i=u then f i else 0)=λu=>Ag m λi=>if q i=u then f i * p (q i) else 0:=by
  funext u;rw [<-Wq];refine Cu λi _=> ?_
  by_cases e:q i=u
  ·rw [if_pos e,if_pos e,e,Int.mul_comm]
  ·rw [if_neg e,if_neg e,Int.mul_zero]
 rw [e,Yk];refine Cu λi hi=> ?_
 have e2:(λu=>if q i=u then f i * p (q i) else 0)=λu=>if u=q i then f i * p (q i) else 0:=by
  funext u;by_cases e:q i=u
  ·rw [if_pos e,if_pos e.symm]
  ·rw [if_neg e,if_neg λz=>e z.symm]
 rw [e2];exact (Gp (x:=λ_=>f i * p (q i)) (h i hi)).symm
theorem ZCS {s:Nat->Int} (hp:p n=0) (ha:∀i,i < m->(a i).fr < n/\(a i).to<=n) (F:Feas n m a s f):Ag m (λi=>f i * p (a i).fr) - Ag m (λi=>f i * p (a i).to)=Ag n λu=>p u * s u:=by
 have h1:=ZAB (q:=λi=>(a i).fr) (f:=f) (p:=p) (n:=n) (m:=m) λi hi=>(ha i hi).1
 have h2:=ZAB (q:=λi=>(a i).to) (f:=f) (p:=p) (n:=n + 1) (m:=m) λi hi=>by have:=(ha i hi).2;lia
 have h3:Ag (n + 1) (λu=>p u * Ag m λi=>if (a i).to=u then f i else 0)=Ag n (λu=>p u * inA a m f u):=by
  show Ag n _ + p n * _=_;rw [hp,Int.zero_mul,Int.add_zero]
  rfl
 have h4:Ag n (λu=>p u * Bj a m f u)=Ag n (λu=>p u * s u) + Ag n (λu=>p u * inA a m f u):=by
  rw [<-Dz];refine Cu λu hu=> ?_
  rw [F.bal u hu,Int.mul_add]
 have h1':Ag m (λi=>f i * p (a i).fr)=Ag n (λu=>p u * Bj a m f u):=h1;have h2':Ag m (λi=>f i * p (a i).to)=Ag n (λu=>p u * inA a m f u):=h2.trans h3;lia
theorem most {s:Nat->Int} (hp:p n=0) (ha:∀i,i < m->(a i).fr < n/\(a i).to<=n) (F:Feas n m a s f) (S:Slack m a f p) (H:Feas n m a s g):J0 a m g<=J0 a m f:=by
 have e:∀x:Nat->Int,Feas n m a s x->J0 a m x=Ag m (λi=>x i * ((a i).ga + p (a i).to - p (a i).fr)) + Ag n λu=>p u * s u:=λx X=>by
  have h1:=ZCS hp ha X;have h2:Ag m (λi=>x i * ((a i).ga + p (a i).to - p (a i).fr)) + Ag m (λi=>x i * p (a i).fr)=J0 a m x + Ag m (λi=>x i * p (a i).to):=by
   rw [<-Dz];unfold J0;rw [<-Dz];refine Cu λi _=> ?_
   rw [Int.mul_sub,Int.mul_add];lia
  lia
 rw [e g H,e f F];have:Ag m (λi=>g i * ((a i).ga + p (a i).to - p (a i).fr))<=Ag m (λi=>f i * ((a i).ga + p (a i).to - p (a i).fr)):=Ea λi hi=>by
  generalize hr:(a i).ga + p (a i).to - p (a i).fr=r;rcases Int.lt_trichotomy r 0 with z | z | z
  ·have hf:f i=0:=by have h1:=F.nn i hi;have h2:=S.some_ i hi;lia
   rw [hf,Int.zero_mul];have h3:=H.nn i hi;exact Int.mul_nonpos_of_nonneg_of_nonpos h3 (by lia)
  ·rw [z,Int.mul_zero,Int.mul_zero];exact Int.le_refl _
  ·have hb:∃b,(a i).mo=some b/\b<=f i:=by
    cases hm:(a i).mo with
    | none=>
     have:=S.more i hi λb hb=>by rw [hm] at hb;cases hb
     lia
    | some b=>
     refine ⟨b,rfl,Int.not_lt.mp λhlt=> ?_⟩;have:=S.more i hi λb' hb'=>by rw [hm] at hb';cases hb';exact hlt
     lia
   obtain ⟨b,h1,h2⟩:=hb;have h3:=H.le i b hi h1;exact Int.mul_le_mul_of_nonneg_right (by lia) (by lia)
 lia
inductive Way (m:Nat) (a:Nat->Arc) (f:Nat->Int):Nat->Nat->Int->Prop
 | here (u:Nat):Way m a f u u 0
 | on {i v:Nat} {w:Int}:i < m->(∀b,(a i).mo=some b->f i < b)->Way m a f (a i).to v w->Way m a f (a i).fr v ((a i).ga + w)
 | back {i v:Nat} {w:Int}:i < m->0 < f i->Way m a f (a i).fr v w->Way m a f (a i).to v (w - (a i).ga)
noncomputable def bump (f:Nat->Int) (i:Nat) (c:Int):Nat->Int:=λk=>if k=i then f k + c else f k
theorem ZAz {q:Nat->Nat} :∀{m:Nat},i < m->Ag m (λk=>if q k=w then bump f i c k else 0)=Ag m (λk=>if q k=w then f k else 0) + (if q i=w then c else 0):=λ{m} hi=>by
 have e:(λk=>if q k=w then bump f i c k else 0)=λk=>(if q k=w then f k else 0) + (if k=i then (λk=>if q k=w then c else 0) k else 0):=by
  funext k;unfold bump;by_cases h2:k=i
  ·subst h2
   by_cases h1:q k=w <;> simp [h1]
  ·simp [h2]
 rw [e,Dz,Gp hi]
inductive TW (m:Nat) (a:Nat->Arc) (f d:Nat->Int) (n:Nat):Nat->Nat->Prop
 | here:TW m a f d n 0 n
 | on {i k:Nat}:i < m->(∀b,(a i).mo=some b->f i < b)->d (a i).fr=(a i).ga + d (a i).to->TW m a f d n k (a i).to->TW m a f d n (k + 1) (a i).fr
 | back {i k:Nat}:i < m->0 < f i->d (a i).fr=(a i).ga + d (a i).to->TW m a f d n k (a i).fr->TW m a f d n (k + 1) (a i).to
noncomputable def ex (a:Nat->Arc) (m:Nat) (f:Nat->Int) (w:Nat):Int:=Bj a m f w - inA a m f w
theorem ZGv (hi:i < m):ex a m (bump f i c) w=ex a m f w + (if (a i).fr=w then c else 0) - (if (a i).to=w then c else 0):=by unfold ex Bj inA;rw [ZAz (q:=λk=>(a k).fr) hi,ZAz (q:=λk=>(a k).to) hi];lia
noncomputable def moD:Option Int->D
 | none=>.non
 | some b=>.int b
noncomputable def encA (x:Arc):D:=.tup [.int x.fr,.int x.to,moD x.mo,.int x.ga]
@[simp] theorem ZK8 {o:Option Int}:bel n (moD o)=true:=by cases o <;> rfl
@[simp] theorem ZKC {x:Arc}:bel n (encA x)=true:=by simp [encA]
theorem Nx {l:List Arc}:bels n (l.map encA)=true:=Kc λ_ _=>ZKC
theorem Ci:bels m (xs.map D.int)=true:=Kc λ_ _=>rfl
structure ArcOk (n:Nat) (x:Arc):Prop where
 lt:x.fr < n
 up:x.fr < x.to
 le:x.to<=n
 mo:∀b,x.mo=some b->0<=b
 ga: -1000<=x.ga/\x.ga<=1000
structure NetOk (n:Nat) (as:List Arc) (s:List Int):Prop where
 n1:1<=n
 n2:n<=30
 len:as.length<=40
 arc:∀x∈as,ArcOk n x
 way:∀k,k < n->∃x∈as,x.fr=k/\x.mo=none
 sl:s.length=n
 sn:∀x∈s,0<=x
 sb:∀x∈s,x < 10 ^ 40
theorem divS {i k:Int} (h:0 < k) (h2:k < 1000000):Es (.int i) (.int k) G=.ok (.int (i / k)) G:=by obtain ⟨n,rfl⟩:=Int.eq_ofNat_of_zero_le (Int.le_of_lt h);exact ZGP (by lia) (log2_small (Nat.lt_trans (show n < 1000000 by lia) (by decide)))
theorem Xu {k:Int} (hk:0 < k) (hk9:k < 1000000) (G L:DH):Dj [.ref G.length,.int k] (G++ .lst [.int x]::L)=.ok (.int (x % k)) (G++ .lst [.int (x / k)]::L):=by
 have td:tidy (G++ .lst [.int x]::L) (.ok (.int (x % k)) (G++ .lst [.int (x / k)]::L))=.ok (.int (x % k)) (G++ .lst [.int (x / k)]::L):=Vu (by simp) rfl;have g0:∀o:DO,(G++o::L)[G.length]? =some o:=λo=>by rw [Td];rfl
 have s0:∀o o':DO,(G++o::L).set G.length o'=G++o'::L:=λo o'=>by rw [V6];rfl
 have dv:∀H:DH,Es (.int x) (.int k) H=.ok (.int (x / k)) H:=λH=>divS hk hk9
 unfold Dj Fi;rw [Ck];have i0:ixN 1 0=some 0:=by decide
 simp [g0,s0,hk,dv,td,i0]
theorem ZAx (hn:n<=30):∀(m k:Nat) (x:Int),k + m=n->∃(as:List Arc) (x':Int),as.length=m/\(∀a∈as,ArcOk n a)/\(∀j,k<=j->j < n->∃a∈as,a.fr=j/\a.mo=none)/\∀(G:DH) (acc:List Arc) (s2 s6 s7 s8 s9 s10 x4 x5:Option D),acc.length + m<=100->∃y4 y5,
  Bu (gV 4) Qp (Bf k m) [some (.ref G.length),some (.int n),s2,some (.ref (G.length + 1)),x4,x5,s6,s7,s8,s9,s10] (G++ [.lst [.int x],.lst (acc.map encA)])=
   .nx [some (.ref G.length),some (.int n),s2,some (.ref (G.length + 1)),y4,y5,s6,s7,s8,s9,s10] (G++ [.lst [.int x'],.lst ((acc++as).map encA)])
 | 0,k,x,e=>⟨[],x,rfl,(λ_ h=>absurd h (by simp)),(λj h1 h2=>by lia),λG acc s2 s6 s7 s8 s9 s10 x4 x5 _=>⟨x4,x5,by rw [Lw,Jf,List.append_nil]⟩⟩
 | m + 1,k,x,e=>by
  have hp:(0:Int) < (n:Int) - (k:Int):=by lia
  obtain ⟨t,et⟩:∃t:Nat,(t:Int)=x % ((n:Int) - (k:Int)):=⟨(x % ((n:Int) - (k:Int))).toNat,by have:=Int.emod_nonneg x (show (n:Int) - (k:Int)≠0 by lia);lia⟩
  have htl:k + 1 + t<=n:=by have:=Int.emod_lt_of_pos x hp;lia
  let y:Int:=x / ((n:Int) - (k:Int));let a:Arc:=⟨k,k + 1 + t,none,y % 1801 - 900⟩;obtain ⟨as,x',hl,hok,hw,ih⟩:=ZAx hn m (k + 1) (y / 1801) (by lia);refine ⟨a::as,x',by simp [hl],λb hb=> ?_,λj h1 h2=> ?_,λG acc s2 s6 s7 s8 s9 s10 x4 x5 ha=> ?_⟩
  ·rcases List.mem_cons.mp hb with rfl | hb
   ·refine ⟨?_,?_,htl,(λb h=>by cases h),?_⟩
    ·show k < n;lia
    ·show k < k + 1 + t;lia
    ·show -1000<=y % 1801 - 900/\y % 1801 - 900<=1000;lia
   ·exact hok b hb
  ·by_cases ej:j=k
   ·exact ⟨a,by simp,ej.symm,rfl⟩
   ·obtain ⟨b,hb,h3⟩:=hw j (by lia) h2;exact ⟨b,List.mem_cons_of_mem _ hb,h3⟩
  ·obtain ⟨y4,y5,hL⟩:=ih G (acc++ [a]) s2 s6 s7 s8 s9 s10 (some (.int k)) (some (.int ((k:Int) + 1 + (t:Int)))) (by simp;lia);refine ⟨y4,y5,?_⟩;have t1:=Xu (x:=x) hp (by lia) G [.lst (acc.map encA)];have t2:=Xu (x:=y) (k:=1801) (by lia) (by lia) G [.lst (acc.map encA)];rw [<-et] at t1;have hb:Qp [some (.ref G.length),some (.int n),s2,some (.ref (G.length + 1)),some (.int k),x5,s6,s7,s8,s9,s10] (G++ [.lst [.int x],.lst (acc.map encA)])=
     .nx [some (.ref G.length),some (.int n),s2,some (.ref (G.length + 1)),some (.int k),some (.int ((k:Int) + 1 + (t:Int))),s6,s7,s8,s9,s10] (G++ [.lst [.int (y / 1801)],.lst ((acc++ [a]).map encA)]):=by
    have hal:(acc.map encA).length < 1000000:=by simp;lia
    have g1:∀a b:DO,(G++ [a,b])[G.length + 1]? =some b:=λa b=>by simp
    have s1:∀a b c:DO,(G++ [a,b]).set (G.length + 1) c=G++ [a,c]:=λa b c=>by simp
    have ea:encA a=.tup [.int k,.int ((k:Int) + 1 + (t:Int)),.non,.int (y % 1801 - 900)]:=by show D.tup [.int k,.int ((k + 1 + t:Nat):Int),.non,.int (y % 1801 - 900)]=_;rw [show ((k + 1 + t:Nat):Int)=(k:Int) + 1 + (t:Int) by lia]
    have ey:x / ((n:Int) - (k:Int))=y:=rfl;rw [ey] at t1;rw [List.map_append,List.map_cons,List.map_nil,ea];generalize acc.map encA=A at *;generalize y=z at *;unfold Qp;simp [t1,t2,g1,s1,hal]
   rw [Jw,H8];simp only [Fj,R.Dp,List.set,hb,Ef];have e1:((k:Int) + 1)=((k + 1:Nat):Int):=by lia
   rw [e1] at hL ⊢;rw [hL,List.append_assoc]
   rfl
theorem ZBj {xs ys:List D} (h:xs.length + ys.length<=1000000):Ay (.fl xs) (.fl ys) G=.ok (.ref G.length) (G++ [.lst (xs++ys)]):=by simp [h]
noncomputable def Dk (as:List Arc) (p:Nat) (x:Arc):List Arc:=as.take p++ [x]++as.drop p
theorem ZDJ {p:Nat} {x y:Arc} (h:y∈Dk as p x):y=x∨y∈as:=by
 unfold Dk at h;simp only [List.mem_append,List.mem_singleton] at h;rcases h with (h | h) | h
 ·exact .inr (List.mem_of_mem_take h)
 ·exact .inl h
 ·exact .inr (List.mem_of_mem_drop h)
theorem ZA1 {p:Nat} {x y:Arc} (h:y∈as):y∈Dk as p x:=by
 rw [<-List.take_append_drop p as] at h;unfold Dk;simp only [List.mem_append,List.mem_singleton] at h ⊢;rcases h with h | h
 ·exact .inl (.inl h)
 ·exact .inr h
theorem Rp {p:Nat} {x:Arc}:(Dk as p x).length=as.length + 1:=by unfold Dk;simp;lia
theorem ZCM {p:Nat} {x:Arc} (hi:S[i]? =some (some (.ref q))) (hj:S[j]? =some (some (.int (p:Int)))) (hk:S[k]? =some (some (encA x))) (hq:H[q]? =some (.lst (as.map encA))) (hp:p<=as.length) (hl:as.length<=1000):
  Cr (dOp Ay (Ba (dOp Ay (Ba (dSl (dV i) none (some (dV j)))) (Ba (dFn Ar (Ac (dV k) Ai))))) (Ba (dSl (dV i) (some (dV j)) none))) S H=.ok (.ref H.length) (H++ [.lst ((Dk as p x).map encA)]):=by
 have sl:∀lo hi,La (.ref q) lo hi H=.ok (.ref H.length) (H++ [.lst (cutD (as.map encA) lo hi)]):=λlo hi=>by simp [La,Ga,hq]
 have ct:cutD (as.map encA) none (some (p:Int))=(as.take p).map encA:=by rw [Wk (by simpa using hp),List.map_take]
 have cd:cutD (as.map encA) (some (p:Int)) none=(as.drop p).map encA:=by rw [ZHV (by simpa using hp),List.map_drop]
 have fz:∀l:List Arc,freeze H (.ok (.ref H.length) (H++ [.lst (l.map encA)]))=.ok (.fl (l.map encA)) H:=λl=>Cg Nx
 have f1:=fz (as.take p);have f2:=fz [x];have f3:=fz (as.drop p);have f4:=fz (as.take p++ [x]);have td:tidy H (.ok (.ref H.length) (H++ [.lst ((Dk as p x).map encA)]))=.ok (.ref H.length) (H++ [.lst ((Dk as p x).map encA)]):=Hz Nx;have l1:((as.take p).map encA).length + ([x].map encA).length<=1000000:=by simp;lia
 have l2:((as.take p++ [x]).map encA).length + ((as.drop p).map encA).length<=1000000:=by simp;lia
 have a1:=ZBj (G:=H) l1;have a2:=ZBj (G:=H) l2;rw [<-List.map_append] at a1 a2;have ei:as.take p++ [x]++as.drop p=Dk as p x:=rfl;rw [ei] at a2;have ex:([x].map encA)= [encA x]:=rfl;rw [ex] at f2 a1;generalize (as.take p).map encA=X1 at *;generalize (as.drop p).map encA=X3 at *;generalize (as.take p++ [x]).map encA=X4 at *;generalize (Dk as p x).map encA=X5 at *;generalize encA x=X6 at *;simp [-Ku,hi,hj,hk,sl,ct,cd,f1,Ar,f2,a1,f4,f3,a2,td]
theorem Vx (x:Int) (h:0 < k):∃t:Nat,x % (k:Int)=(t:Int)/\t < k:=by have h1:=Int.emod_nonneg x (show (k:Int)≠0 by lia);have h2:=Int.emod_lt_of_pos x (show (0:Int) < (k:Int) by lia);exact ⟨(x % (k:Int)).toNat,by lia,by lia⟩
theorem J1 (x:Int) (h:0 < k) (h9:k < 1000000) (G L:DH):∃t:Nat,t < k/\Dj [.ref G.length,.int (k:Int)] (G++ .lst [.int x]::L)=.ok (.int (t:Int)) (G++ .lst [.int (x / (k:Int))]::L):=by obtain ⟨t,e,ht⟩:=Vx x h;exact ⟨t,ht,by rw [Xu (by lia) (by lia),e]⟩
theorem ZFY {s4 s5 s6 s7 s8 s9 s10:Option D} (hn1:1<=n) (hn:n<=30) (hsc:0 < sc) (hq:G.length < q) (hg:∀o:DO,(G++o::L)[q]? =some (.lst (as.map encA))) (ha:as.length<=100):
  ∃(x':Int) (p:Nat) (a:Arc) (y5 y6 y7 y8 y9:Option D),ArcOk n a/\
  Q3 [some (.ref G.length),some (.int n),some (.int sc),some (.ref q),s4,s5,s6,s7,s8,s9,s10] (G++ .lst [.int x]::L)=
   .nx [some (.ref G.length),some (.int n),some (.int sc),some (.ref (G.length + (L.length + 1))),s4,y5,y6,y7,y8,y9,s10] (G++ .lst [.int x']::(L++ [.lst ((Dk as p a).map encA)])):=by
 obtain ⟨t1,h1,e1⟩:=J1 x (show 0 < n by lia) (by lia) G L;generalize x / (n:Int)=x1 at e1;obtain ⟨t2,h2,e2⟩:=J1 x1 (show 0 < n - t1 by lia) (by lia) G L;rw [show ((n - t1:Nat):Int)=(n:Int) - (t1:Int) by lia] at e2;generalize x1 / ((n:Int) - (t1:Int))=x2 at e2;obtain ⟨t3,h3,e3⟩:=J1 x2 (show 0 < 6 by lia) (by lia) G L;generalize x2 / ((6:Nat):Int)=x3 at e3;obtain ⟨t4,h4,e4⟩:=J1 x3 (show 0 < 1801 by lia) (by lia) G L
 generalize x3 / ((1801:Nat):Int)=x4 at e4;obtain ⟨t5,h5,e5⟩:=J1 x4 (show 0 < as.length + 1 by lia) (by lia) G L;rw [show ((as.length + 1:Nat):Int)=(as.length:Int) + 1 by lia] at e5;generalize x4 / ((as.length:Int) + 1)=x5 at e5;have e3':Dj [.ref G.length,.int 6] (G++ .lst [.int x2]::L)=.ok (.int (t3:Int)) (G++ .lst [.int x3]::L):=e3;have e4':Dj [.ref G.length,.int 1801] (G++ .lst [.int x3]::L)=.ok (.int (t4:Int)) (G++ .lst [.int x4]::L):=e4
 have mu:∀H:DH,Bo (.int (t3:Int)) (.int sc) H=.ok (.int ((t3:Int) * sc)) H:=λH=>Kf (by lia) (by lia)
 have q5:(t3:Int) * sc=5 * sc↔t3=5:=⟨λh=>by have:=Int.eq_of_mul_eq_mul_right (by lia) h;lia,λh=>by subst h;rfl⟩;let a:Arc:=⟨t1,t1 + 1 + t2,if t3=5 then none else some ((t3:Int) * sc),(t4:Int) - 900⟩;have ea:encA a=.tup [.int t1,.int ((t1:Int) + 1 + (t2:Int)),(if t3=5 then .non else .int ((t3:Int) * sc)),.int ((t4:Int) - 900)]:=by
  show D.tup [.int t1,.int ((t1 + 1 + t2:Nat):Int),moD (if t3=5 then none else some ((t3:Int) * sc)),.int ((t4:Int) - 900)]=_;rw [show ((t1 + 1 + t2:Nat):Int)=(t1:Int) + 1 + (t2:Int) by lia]
  by_cases h:t3=5 <;> simp [h,moD]
 have hok:ArcOk n a:=by
  refine ⟨h1,?_,?_,λb hb=> ?_,?_⟩
  ·show t1 < t1 + 1 + t2;lia
  ·show t1 + 1 + t2<=n;lia
  ·change (if t3=5 then none else some ((t3:Int) * sc))=some b at hb
   split at hb
   ·cases hb
   ·cases hb;exact Int.mul_nonneg (by lia) (by lia)
  ·show -1000<=(t4:Int) - 900/\(t4:Int) - 900<=1000;lia
 refine ⟨x5,t5,a,some (.int ((t1:Int) + 1 + (t2:Int))),some (.int t1),some (if t3=5 then .non else .int ((t3:Int) * sc)),some (encA a),some (.int t5),hok,?_⟩;have rn:=ZCM (q:=q) (p:=t5) (as:=as) (x:=a) (S:= [some (.ref G.length),some (.int n),some (.int sc),some (.ref q),s4,some (.int ((t1:Int) + 1 + (t2:Int))),some (.int t1),some (if t3=5 then .non else .int ((t3:Int) * sc)),some (encA a),some (.int t5),s10]) (i:=3) (j:=9) (k:=8) (H:=(G++ .lst [.int x5]::L)) rfl rfl rfl (hg _) (by lia) (by lia)
 have le:(G++DO.lst [.int x5]::L).length=G.length + (L.length + 1):=by simp
 rw [le,List.append_assoc,List.cons_append] at rn;generalize (Dk as t5 a).map encA=B at *;have g4:=hg (.lst [.int x4]);have rn2:=rn;rw [ea] at rn2
 clear_value a
 clear hg;unfold Q3;rw [ea];by_cases h:t3=5
 ·simp only [h,if_true] at *;simp [-Vv,e1,e2,e3',e4',e5,mu,g4,rn2]
 ·simp only [h,if_false] at *;simp [-Vv,e1,e2,e3',e4',e5,mu,q5,h,g4,rn2]
theorem ZCE (hn1:1<=n) (hn:n<=30) (hsc:0 < sc) {s10:Option D}:∀(m k q:Nat) (x:Int) (as:List Arc) (L:DH) (s4 s5 s6 s7 s8 s9:Option D),G.length < q->(∀o:DO,(G++o::L)[q]? =some (.lst (as.map encA)))->as.length + m<=100->(∀a∈as,ArcOk n a)->
  ∃(x':Int) (as':List Arc) (L':DH) (q':Nat) (y4 y5 y6 y7 y8 y9:Option D),G.length < q'/\(∀o:DO,(G++o::L')[q']? =some (.lst (as'.map encA)))/\as'.length=as.length + m/\(∀a∈as',ArcOk n a)/\(∀a∈as,a∈as')/\
   Bu (gV 4) Q3 (Bf k m) [some (.ref G.length),some (.int n),some (.int sc),some (.ref q),s4,s5,s6,s7,s8,s9,s10] (G++ .lst [.int x]::L)=
    .nx [some (.ref G.length),some (.int n),some (.int sc),some (.ref q'),y4,y5,y6,y7,y8,y9,s10] (G++ .lst [.int x']::L')
 | 0,k,q,x,as,L,s4,s5,s6,s7,s8,s9,hq,hg,_,ho=>⟨x,as,L,q,s4,s5,s6,s7,s8,s9,hq,hg,rfl,ho,λ_ h=>h,by rw [Lw,Jf]⟩
 | m + 1,k,q,x,as,L,s4,s5,s6,s7,s8,s9,hq,hg,hl,ho=>by
  obtain ⟨x1,p,a,y5,y6,y7,y8,y9,ao,hb⟩:=ZFY (x:=x) (s4:=some (.int k)) (s5:=s5) (s6:=s6) (s7:=s7) (s8:=s8) (s9:=s9) (s10:=s10) hn1 hn hsc hq hg (by lia);have hg':∀o:DO,(G++o::(L++ [.lst ((Dk as p a).map encA)]))[G.length + (L.length + 1)]? =some (.lst ((Dk as p a).map encA)):=λo=>by rw [Ov];simp
  obtain ⟨x',as',L',q',z4,z5,z6,z7,z8,z9,h1,h2,h3,h4,h5,hL⟩:=ZCE hn1 hn hsc m (k + 1) _ x1 (Dk as p a) _ (some (.int k)) y5 y6 y7 y8 y9 (by lia) hg' (by rw [Rp];lia) (λb hb=>by
   rcases ZDJ hb with rfl | hb
   ·exact ao
   ·exact ho b hb)
  refine ⟨x',as',L',q',z4,z5,z6,z7,z8,z9,h1,h2,by rw [h3,Rp];lia,h4,λb hb=>h5 b (ZA1 hb),?_⟩;rw [Jw,H8];simp only [Fj,R.Dp,List.set,hb,Ef];have e1:((k:Int) + 1)=((k + 1:Nat):Int):=by lia
  rw [e1,hL]
theorem ZBZ (hsc:0 < sc) (hsc2:sc<=10 ^ 30) {G L:DH} {s0:Option D}:∀(m k:Nat) (x:Int),∃(s:List Int) (x':Int),s.length=m/\(∀v∈s,0<=v/\v < 10 ^ 39)/\
  Df (gV 0) Cd Pb [s0,some (.ref G.length),some (.int sc)] (Bf k m) (G++ .lst [.int x]::L)=.ok (s.map D.int) (G++ .lst [.int x']::L)
 | 0,k,x=>⟨[],x,rfl,λ_ h=>absurd h (by simp),by rw [Lw,ZHT];rfl⟩
 | m + 1,k,x=>by
  obtain ⟨t,ht,e⟩:=J1 x (show 0 < 5 by lia) (by lia) G L;obtain ⟨s,x',h1,h2,h3⟩:=ZBZ hsc hsc2 (G:=G) (L:=L) (s0:=s0) m (k + 1) (x / ((5:Nat):Int));have mu:∀H:DH,Bo (.int (t:Int)) (.int sc) H=.ok (.int ((t:Int) * sc)) H:=λH=>Kf (by lia) (by lia)
  refine ⟨(t:Int) * sc::s,x',by simp [h1],λv hv=> ?_,?_⟩
  ·rcases List.mem_cons.mp hv with rfl | hv
   ·have h9:=Int.mul_le_mul_of_nonneg_right (show (t:Int)<=4 by lia) (show 0<=sc by lia);exact ⟨Int.mul_nonneg (by lia) (by lia),by lia⟩
   ·exact h2 v hv
  ·generalize x / ((5:Nat):Int)=x1 at *;have e':Dj [.ref G.length,.int 5] (G++ .lst [.int x]::L)=.ok (.int (t:Int)) (G++ .lst [.int x1]::L):=e;have e1:((k:Int) + 1)=((k + 1:Nat):Int):=by lia
   rw [<-e1] at h3;rw [Jw,Zc];have eb:Pb [some (.int (k:Int)),some (.ref G.length),some (.int sc)] (G++ .lst [.int x]::L)=.ok (.int ((t:Int) * sc)) (G++ .lst [.int x1]::L):=by unfold Pb;simp [e',mu]
   simp [eb,h3]
theorem Xx {G':DH} (h:bels G.length ds=false):tidy G (.ok (.tup ds) G')=.ok (.tup ds) G':=by
 unfold tidy;have:bel G.length (.tup ds)=false:=by simpa [bel] using h
 simp [this]
theorem scales (ht:t < 4) :∃sc:Int,0 < sc/\sc<=10 ^ 30/\An (.fl [.int 1,.int 1,.int 1000000007,.int 1000000000000000000000000000000]) (.int (t:Int)) H=.ok (.int sc) H:=by
 match t,ht with
 | 0,_=>exact ⟨1,by decide,by decide,rfl⟩
 | 1,_=>exact ⟨1,by decide,by decide,rfl⟩
 | 2,_=>exact ⟨1000000007,by decide,by decide,rfl⟩
 | 3,_=>exact ⟨1000000000000000000000000000000,by decide,by decide,rfl⟩
 | n + 4,h=>exact absurd h (by lia)
theorem ZHe {n:Int} {r:Nat} {B:List D} (hq:G.length<=q) (gq:(G++L)[q]? =some (.lst A)) (hr:G.length<=r) (gr:(G++L)[r]? =some (.lst B)) (ha:bels G.length A=true) (hb:bels G.length B=true):freeze G (.ok (.tup [.int n,.ref q,.ref r]) (G++L))=.ok (.tup [.int n,.fl A,.fl B]) G:=by
 unfold freeze;have b1:bel G.length (.ref q)=false:=by simp [bel];lia
 have b2:bel G.length (.ref r)=false:=by simp [bel];lia
 have f1:Ce (G++L) G.length 8 (.ref q)=some (.fl A):=by unfold Ce;simp [b1,gq,O5 ha]
 have f2:Ce (G++L) G.length 8 (.ref r)=some (.fl B):=by unfold Ce;simp [b2,gr,O5 hb]
 have f0:Ce (G++L) G.length 8 (.int n)=some (.int n):=by unfold Ce;simp
 have m:Ce (G++L) G.length 9 (.tup [.int n,.ref q,.ref r])=some (.tup [.int n,.fl A,.fl B]):=by
  rw [Ce];have:bel G.length (.tup [.int n,.ref q,.ref r])=false:=by simp [b1]
  simp [this,I9,f0,f1,f2]
 simp [m]
theorem ZG0 {n:Int} {B:List D} (hq:G.length<=q) (gq:(G++L)[q]? =some (.lst A)) (ha:bels G.length A=true) (hb:bels G.length B=true):freeze G (.ok (.tup [.int n,.ref q,.fl B]) (G++L))=.ok (.tup [.int n,.fl A,.fl B]) G:=by
 unfold freeze;have b1:bel G.length (.ref q)=false:=by simp [bel];lia
 have f1:Ce (G++L) G.length 8 (.ref q)=some (.fl A):=by unfold Ce;simp [b1,gq,O5 ha]
 have f2:Ce (G++L) G.length 8 (.fl B)=some (.fl B):=by unfold Ce;simp [hb]
 have f0:Ce (G++L) G.length 8 (.int n)=some (.int n):=by unfold Ce;simp
 have m:Ce (G++L) G.length 9 (.tup [.int n,.ref q,.fl B])=some (.tup [.int n,.fl A,.fl B]):=by
  rw [Ce];have:bel G.length (.tup [.int n,.ref q,.fl B])=false:=by simp [b1]
  simp [this,I9,f0,f1,f2]
 simp [m]
theorem ZGM (x:Int) (G:DH):∃(n:Nat) (as:List Arc) (s:List Int),NetOk n as s/\(∀x∈s,x < 10 ^ 39)/\∃(q r:Nat) (L:DH),G.length<=q/\(G++L)[q]? =some (.lst (as.map encA))/\G.length<=r/\(G++L)[r]? =some (.lst (s.map D.int))/\
  U0 [.ref G.length] (G++ [.lst [.int x]])=.ok (.tup [.int n,.ref q,.ref r]) (G++L):=by
 obtain ⟨t1,h1,e1⟩:=J1 x (show 0 < 6 by lia) (by lia) G [];generalize x / ((6:Nat):Int)=x1 at e1;obtain ⟨t2,h2,e2⟩:=J1 x1 (show 0 < 4 by lia) (by lia) G [];generalize x1 / ((4:Nat):Int)=x2 at e2;obtain ⟨sc,hsc,hsc2,esc⟩:=scales h2 (H:=G++ [.lst [.int x2]]);obtain ⟨as1,x3,l1,o1,w1,r1⟩:=ZAx (n:=1 + t1) (by lia) (1 + t1) 0 x2 (by lia);obtain ⟨y4,y5,r1⟩:=r1 G [] (some (.int sc)) none none none none none none none (by simp;lia)
 obtain ⟨t3,h3,e3⟩:=J1 x3 (show 0 < 11 by lia) (by lia) G [.lst (as1.map encA)];generalize x3 / ((11:Nat):Int)=x4 at e3;have g1:∀o:DO,(G++o:: [.lst (as1.map encA)])[G.length + 1]? =some (.lst (as1.map encA)):=λo=>by rw [Ov];rfl
 obtain ⟨x5,as2,L2,q2,z4,z5,z6,z7,z8,z9,q2l,g2,l2,o2,w2,r2⟩:=ZCE (n:=1 + t1) (s10:=none) (by lia) (by lia) hsc t3 0 (G.length + 1) x4 as1 [.lst (as1.map encA)] y4 y5 none none none none (by lia) g1 (by lia) o1;obtain ⟨s,x6,ls,ns,r3⟩:=ZBZ hsc hsc2 (G:=G) (L:=L2) (s0:=none) (1 + t1) 0 x5;have e1':Dj [.ref G.length,.int 6] (G++ [.lst [.int x]])=.ok (.int (t1:Int)) (G++ [.lst [.int x1]]):=e1;have e2':Dj [.ref G.length,.int 4] (G++ [.lst [.int x1]])=.ok (.int (t2:Int)) (G++ [.lst [.int x2]]):=e2
 have e3':Dj [.ref G.length,.int 11] (G++ [.lst [.int x3],.lst (as1.map encA)])=.ok (.int (t3:Int)) (G++ [.lst [.int x4],.lst (as1.map encA)]):=e3;have le:(G++DO.lst [.int x6]::L2).length=G.length + (L2.length + 1):=by simp
 have q2u:q2 < G.length + (L2.length + 1):=by have:=(List.getElem?_eq_some_iff.mp (g2 (.lst [.int x6]))).1;simpa using this
 refine ⟨1 + t1,as2,s,⟨by lia,by lia,by lia,o2,λk hk=> ?_,ls,λx hx=>(ns x hx).1,λx hx=>by have:=(ns x hx).2;lia⟩,λx hx=>(ns x hx).2,q2,G.length + (L2.length + 1),.lst [.int x6]::(L2++ [.lst (s.map D.int)]),by lia,?_,by lia,?_,?_⟩
 ·obtain ⟨a,ha,h⟩:=w1 k (by lia) hk;exact ⟨a,w2 a ha,h⟩
 ·have:=g2 (.lst [.int x6]);rw [show G++DO.lst [.int x6]::(L2++ [.lst (s.map D.int)])=(G++DO.lst [.int x6]::L2)++ [.lst (s.map D.int)] by simp,List.getElem?_append_left (by rw [le];exact q2u),this]
 ·rw [Ov];simp
 have r1':Bu (gV 4) Qp (Bf 0 (1 + t1)) [some (.ref G.length),some (.int (1 + (t1:Int))),some (.int sc),some (.ref (G.length + 1)),none,none,none,none,none,none,none] (G++ [.lst [.int x2],.lst []])=.nx [some (.ref G.length),some (.int (1 + (t1:Int))),some (.int sc),some (.ref (G.length + 1)),y4,y5,none,none,none,none,none] (G++ [.lst [.int x3],.lst (as1.map encA)]):=by have:=r1;rw [show ((1 + t1:Nat):Int)=1 + (t1:Int) by lia] at this;exact this
 have r2':Bu (gV 4) Q3 (Bf 0 t3) [some (.ref G.length),some (.int (1 + (t1:Int))),some (.int sc),some (.ref (G.length + 1)),y4,y5,none,none,none,none,none] (G++ [.lst [.int x4],.lst (as1.map encA)])=.nx [some (.ref G.length),some (.int (1 + (t1:Int))),some (.int sc),some (.ref q2),z4,z5,z6,z7,z8,z9,none] (G++ .lst [.int x5]::L2):=by have:=r2;rw [show ((1 + t1:Nat):Int)=1 + (t1:Int) by lia] at this;exact this
 have r3':Df (gV 0) Cd Pb [none,some (.ref G.length),some (.int sc)] (Bf 0 (1 + t1)) (G++ .lst [.int x5]::L2)=.ok (s.map D.int) (G++ .lst [.int x6]::L2):=r3;have en:(1 + (t1:Int)).toNat=1 + t1:=by lia
 have td:∀H:DH,tidy (G++ [.lst [.int x]]) (.ok (.tup [.int (1 + (t1:Int)),.ref q2,.ref (G.length + (L2.length + 1))]) H)=.ok (.tup [.int (1 + (t1:Int)),.ref q2,.ref (G.length + (L2.length + 1))]) H:=λH=>Xx (by simp [bels,bel])
 have tn:tidy (G++ [.lst [.int x2]]) (.ok (.ref (G.length + 1)) (G++ [.lst [.int x2],.lst []]))=.ok (.ref (G.length + 1)) (G++ [.lst [.int x2],.lst []]):=ZJi rfl;rw [show ((1 + t1:Nat):Int)=1 + (t1:Int) by lia];have fz:freeze (G++ [.lst [.int x1]]) (.ok (.ref (G.length + 1)) (G++ [.lst [.int x1],.lst [.int 1,.int 1,.int 1000000007,.int 1000000000000000000000000000000]]))=.ok (.fl [.int 1,.int 1,.int 1000000007,.int 1000000000000000000000000000000]) (G++ [.lst [.int x1]]):=ZFP rfl
 have i1:inR (1 + (t1:Int)):=⟨by lia,by lia⟩;have i2:inR (t3:Int):=⟨by lia,by lia⟩;have lS:(s.map D.int).length<=1000000:=by simp;lia
 have cp:Bh 1 [0,2] [some (.ref G.length),some (.int (1 + (t1:Int))),some (.int sc),some (.ref q2),z4,z5,z6,z7,z8,z9,none]= [none,some (.ref G.length),some (.int sc)]:=rfl;unfold U0 Vk ZCW ZB6 ZDd ZDT ZDI ZDc;rw [Ck];generalize as1.map encA=A1 at *;generalize s.map D.int=S1 at *;simp [e1',e2',esc,fz,tn,Ar,r1',e3',r2',r3',en,td,i1,i2,cp,lS]
theorem ZEn {p k:Int} (hp:0 < p) (hk:0 < k) (G:DH):Di [.int c,.int p,.int k] G=.ok (.int (c * 48271 % p % k)) G:=by unfold Di Fg;rw [Ck];simp [hp,hk,Dr]
theorem Hl (c p:Int) (hp:0 < p) (hk:0 < k):∃t:Nat,t < k/\∀G,Di [.int c,.int p,.int (k:Int)] G=.ok (.int (t:Int)) G:=by obtain ⟨t,e,ht⟩:=Vx (c * 48271 % p) hk;exact ⟨t,ht,λG=>by rw [ZEn hp (by lia),e]⟩
theorem ZDH (c kd sc:Int) (hsc:0 < sc) (hsc2:sc<=10 ^ 30):∃v:Int,(0<=v/\v < 10 ^ 39)/\∀G,Jj [.int c,.int kd,.int sc] G=.ok (.int v) G:=by
 by_cases h:kd=3
 ·refine ⟨c * 69621 % 1000000000000000000000000000057,⟨Int.emod_nonneg _ (by decide),Int.lt_trans (Int.emod_lt_of_pos _ (by decide)) (by decide)⟩,λG=> ?_⟩;unfold Jj Mm;rw [Ck];simp [h,Dr]
 ·obtain ⟨t,ht,e⟩:=Hl c 10067 (by decide) (show 0 < 5 by decide);have h9:=Int.mul_le_mul_of_nonneg_right (show (t:Int)<=4 by lia) (show 0<=sc by lia);refine ⟨(t:Int) * sc,⟨Int.mul_nonneg (by lia) (by lia),by lia⟩,λG=> ?_⟩;have e':∀G,Di [.int c,.int 10067,.int 5] G=.ok (.int (t:Int)) G:=e;have mu:∀H:DH,Bo (.int (t:Int)) (.int sc) H=.ok (.int ((t:Int) * sc)) H:=λH=>Kf (by lia) (by lia)
  unfold Jj Mm;rw [Ck];simp [h,e',mu,Dr]
theorem ZCX {f:Int} (ht:t < 19) (h1:1<=f) (h2:f<=100): -1000<=((t:Int) - 9) * f/\((t:Int) - 9) * f<=1000:=by have a1:=Int.mul_le_mul_of_nonneg_right (show (t:Int) - 9<=9 by lia) (show 0<=f by lia);have a2:=Int.mul_le_mul_of_nonneg_right (show -9<=(t:Int) - 9 by lia) (show 0<=f by lia);lia
theorem ZBw {ns:List Int} {n:Nat} {far:Int} {lg:Bool} (f1:1<=far) (f2:far<=100) {G:DH} {s1 s2 s3 s11 s12 s13 s14 s15:Option D}:∀(m k:Nat),k + m=n->∃as:List Arc,as.length=m/\(∀a∈as,ArcOk n a)/\(∀j,k<=j->j < n->∃a∈as,a.fr=j/\a.mo=none)/\∀(acc:List Arc) (x8 x9 x10:Option D),acc.length + m<=100->∃y8 y9 y10,
  Bu (gV 8) N8 (Bf k m) [some (.fl (ns.map D.int)),s1,s2,s3,some (.int n),some (.bl lg),some (.int far),some (.ref G.length),x8,x9,x10,s11,s12,s13,s14,s15] (G++ [.lst (acc.map encA)])=
   .nx [some (.fl (ns.map D.int)),s1,s2,s3,some (.int n),some (.bl lg),some (.int far),some (.ref G.length),y8,y9,y10,s11,s12,s13,s14,s15] (G++ [.lst ((acc++as).map encA)])
 | 0,k,e=>⟨[],rfl,(λ_ h=>absurd h (by simp)),(λj h1 h2=>by lia),λacc x8 x9 x10 _=>⟨x8,x9,x10,by rw [Lw,Jf,List.append_nil]⟩⟩
 | m + 1,k,e=>by
  obtain ⟨r,er,hr1,hr2⟩:∃r:Nat,(r:Int)=(if lg=true then min ((n:Int) - (k:Int)) 2 else (n:Int) - (k:Int))/\0 < r/\r<=n - k:=by
   cases lg with
   | true=>exact ⟨min (n - k) 2,by simp;lia,by lia,by lia⟩
   | false=>exact ⟨n - k,by simp;lia,by lia,by lia⟩
  obtain ⟨t1,h1,e1⟩:=Hl (cellAt ns (1 + (k:Int))) 10007 (by decide) hr1;obtain ⟨t2,h2,e2⟩:=Hl (cellAt ns (1 + (k:Int))) 10009 (by decide) (show 0 < 19 by decide);have e2':∀G,Di [.int (cellAt ns (1 + (k:Int))),.int 10009,.int 19] G=.ok (.int (t2:Int)) G:=e2;have mu:∀H:DH,Bo (.int ((t2:Int) - 9)) (.int far) H=.ok (.int (((t2:Int) - 9) * far)) H:=λH=>Kf (by lia) (by lia)
  have ca:∀H:DH,Gu [.fl (ns.map D.int),.int (1 + (k:Int))] H=.ok (.int (cellAt ns (1 + (k:Int)))) H:=λH=>Rx (by lia)
  generalize cellAt ns (1 + (k:Int))=c at *;let a:Arc:=⟨k,k + 1 + t1,none,((t2:Int) - 9) * far⟩;have ea:encA a=.tup [.int k,.int ((k:Int) + 1 + (t1:Int)),.non,.int (((t2:Int) - 9) * far)]:=by show D.tup [.int k,.int ((k + 1 + t1:Nat):Int),.non,.int (((t2:Int) - 9) * far)]=_;rw [show ((k + 1 + t1:Nat):Int)=(k:Int) + 1 + (t1:Int) by lia]
  have hok:ArcOk n a:=by
   refine ⟨?_,?_,?_,(λb h=>by cases h),ZCX h2 f1 f2⟩
   ·show k < n;lia
   ·show k < k + 1 + t1;lia
   ·show k + 1 + t1<=n;lia
  obtain ⟨as,hl,ho,hw,ih⟩:=ZBw (ns:=ns) (n:=n) (lg:=lg) f1 f2 (G:=G) (s1:=s1) (s2:=s2) (s3:=s3) (s11:=s11) (s12:=s12) (s13:=s13) (s14:=s14) (s15:=s15) m (k + 1) (by lia);have ka:a.fr=k/\a.mo=none:=⟨rfl,rfl⟩
  clear_value a
  refine ⟨a::as,by simp [hl],λb hb=> ?_,λj h3 h4=> ?_,λacc x8 x9 x10 hac=> ?_⟩
  ·rcases List.mem_cons.mp hb with rfl | hb
   ·exact hok
   ·exact ho b hb
  ·by_cases ej:j=k
   ·exact ⟨a,by simp,by rw [ej];exact ka.1,ka.2⟩
   ·obtain ⟨b,hb,h⟩:=hw j (by lia) h4;exact ⟨b,List.mem_cons_of_mem _ hb,h⟩
  ·obtain ⟨y8,y9,y10,hL⟩:=ih (acc++ [a]) (some (.int k)) (some (.int c)) (some (.int (r:Int))) (by simp;lia);refine ⟨y8,y9,y10,?_⟩;have hb:N8 [some (.fl (ns.map D.int)),s1,s2,s3,some (.int n),some (.bl lg),some (.int far),some (.ref G.length),some (.int k),x9,x10,s11,s12,s13,s14,s15] (G++ [.lst (acc.map encA)])=
     .nx [some (.fl (ns.map D.int)),s1,s2,s3,some (.int n),some (.bl lg),some (.int far),some (.ref G.length),some (.int k),some (.int c),some (.int (r:Int)),s11,s12,s13,s14,s15] (G++ [.lst ((acc++ [a]).map encA)]):=by
    have hal:(acc.map encA).length < 1000000:=by simp;lia
    rw [List.map_append,List.map_cons,List.map_nil,ea];generalize acc.map encA=A at *;generalize ns.map D.int=N at *;unfold N8;cases lg with
    | true=>
     simp only [if_true] at er;simp [ca,<-er,e1,e2',mu,hal]
    | false=>
     simp only [Bool.false_eq_true,if_false] at er;simp [ca,<-er,e1,e2',mu,hal]
   rw [Jw,H8];simp only [Fj,R.Dp,List.set,hb,Ef];have e1:((k:Int) + 1)=((k + 1:Nat):Int):=by lia
   rw [e1,hL,List.append_assoc]
   rfl
theorem ZG2 {kd far:Int} {s1 s5 s8 s10 s11 s12 s13 s14 s15:Option D} (hn1:1<=n) (hn:n<=30) (hsc:0 < sc) (hsc2:sc<=10 ^ 30) (f1:1<=far) (f2:far<=100) (hg:H[q]? =some (.lst (as.map encA))) (ha:as.length<=100):
  ∃(p:Nat) (a:Arc) (y11 y12 y13 y14:Option D),ArcOk n a/\
  Oo [s0,s1,some (.int kd),some (.int sc),some (.int n),s5,some (.int far),some (.ref q),s8,some (.int z),s10,s11,s12,s13,s14,s15] H=
   .nx [s0,s1,some (.int kd),some (.int sc),some (.int n),s5,some (.int far),some (.ref H.length),s8,some (.int z),s10,y11,y12,y13,y14,s15] (H++ [.lst ((Dk as p a).map encA)]):=by
 obtain ⟨t1,h1,e1⟩:=Hl z 10037 (by decide) (show 0 < n by lia);obtain ⟨v,hv,e2⟩:=ZDH z kd sc hsc hsc2;obtain ⟨t3,h3,e3⟩:=Hl z 10039 (by decide) (show 0 < 7 by lia);obtain ⟨t4,h4,e4⟩:=Hl z 10061 (by decide) (show 0 < n - t1 by lia);rw [show ((n - t1:Nat):Int)=(n:Int) - (t1:Int) by lia] at e4;obtain ⟨t5,h5,e5⟩:=Hl z 10069 (by decide) (show 0 < 19 by lia);obtain ⟨t6,h6,e6⟩:=Hl z 10079 (by decide) (show 0 < as.length + 1 by lia)
 rw [show ((as.length + 1:Nat):Int)=(as.length:Int) + 1 by lia] at e6;have e3':∀G,Di [.int z,.int 10039,.int 7] G=.ok (.int (t3:Int)) G:=e3;have e5':∀G,Di [.int z,.int 10069,.int 19] G=.ok (.int (t5:Int)) G:=e5;have mu:∀H:DH,Bo (.int ((t5:Int) - 9)) (.int far) H=.ok (.int (((t5:Int) - 9) * far)) H:=λH=>Kf (by lia) (by lia)
 let a:Arc:=⟨t1,t1 + 1 + t4,if t3=1 then none else some v,((t5:Int) - 9) * far⟩;have ea:encA a=.tup [.int t1,.int ((t1:Int) + 1 + (t4:Int)),(if t3=1 then .non else .int v),.int (((t5:Int) - 9) * far)]:=by
  show D.tup [.int t1,.int ((t1 + 1 + t4:Nat):Int),moD (if t3=1 then none else some v),.int (((t5:Int) - 9) * far)]=_;rw [show ((t1 + 1 + t4:Nat):Int)=(t1:Int) + 1 + (t4:Int) by lia]
  by_cases h:t3=1 <;> simp [h,moD]
 have hok:ArcOk n a:=by
  refine ⟨h1,?_,?_,λb hb=> ?_,ZCX h5 f1 f2⟩
  ·show t1 < t1 + 1 + t4;lia
  ·show t1 + 1 + t4<=n;lia
  ·change (if t3=1 then none else some v)=some b at hb
   split at hb
   ·cases hb
   ·cases hb;exact hv.1
 refine ⟨t6,a,some (.int t1),some (if t3=1 then .non else .int v),some (encA a),some (.int t6),hok,?_⟩;have rn:=ZCM (q:=q) (p:=t6) (as:=as) (x:=a) (S:= [s0,s1,some (.int kd),some (.int sc),some (.int n),s5,some (.int far),some (.ref q),s8,some (.int z),s10,some (.int t1),some (if t3=1 then .non else .int v),some (encA a),some (.int t6),s15]) (i:=7) (j:=14) (k:=13) (H:=H) rfl rfl rfl hg (by lia) (by lia)
 generalize (Dk as t6 a).map encA=B at *;rw [ea] at rn
 clear_value a
 unfold Oo;rw [ea];have q1:((t3:Int)=1)↔t3=1:=by lia
 by_cases h:t3=1
 ·simp only [h,if_true] at *;simp [-Vv,e1,e2,e3',e4,e5',e6,mu,hg,rn]
 ·simp only [h,if_false] at *;simp [-Vv,e1,e2,e3',e4,e5',e6,mu,q1,h,hg,rn]
theorem ZDh {kd far:Int} (hn1:1<=n) (hn:n<=30) (hsc:0 < sc) (hsc2:sc<=10 ^ 30) (f1:1<=far) (f2:far<=100) {G:DH} {s0 s1 s5 s8 s10 s15:Option D}:∀(zs:List Int) (q:Nat) (as:List Arc) (L:DH) (s9 s11 s12 s13 s14:Option D),G.length<=q->(G++L)[q]? =some (.lst (as.map encA))->as.length + zs.length<=100->(∀a∈as,ArcOk n a)->
  ∃(as':List Arc) (L':DH) (q':Nat) (y9 y11 y12 y13 y14:Option D),G.length<=q'/\(G++L')[q']? =some (.lst (as'.map encA))/\as'.length=as.length + zs.length/\(∀a∈as',ArcOk n a)/\(∀a∈as,a∈as')/\
   Bu (gV 9) Oo (zs.map D.int) [s0,s1,some (.int kd),some (.int sc),some (.int n),s5,some (.int far),some (.ref q),s8,s9,s10,s11,s12,s13,s14,s15] (G++L)=
    .nx [s0,s1,some (.int kd),some (.int sc),some (.int n),s5,some (.int far),some (.ref q'),s8,y9,s10,y11,y12,y13,y14,s15] (G++L')
 | [],q,as,L,s9,s11,s12,s13,s14,hq,hg,_,ho=>⟨as,L,q,s9,s11,s12,s13,s14,hq,hg,rfl,ho,λ_ h=>h,by rw [List.map_nil,Jf]⟩
 | z::zs,q,as,L,s9,s11,s12,s13,s14,hq,hg,hl,ho=>by
  rw [List.length_cons] at hl;obtain ⟨p,a,y11,y12,y13,y14,ao,hb⟩:=ZG2 (z:=z) (kd:=kd) (s0:=s0) (s1:=s1) (s5:=s5) (s8:=s8) (s10:=s10) (s11:=s11) (s12:=s12) (s13:=s13) (s14:=s14) (s15:=s15) hn1 hn hsc hsc2 f1 f2 hg (by lia);have lh:(G++L).length=G.length + L.length:=List.length_append;rw [lh,List.append_assoc] at hb;obtain ⟨as',L',q',z9,z11,z12,z13,z14,h1,h2,h3,h4,h5,hL⟩:=ZDh hn1 hn hsc hsc2 f1 f2 (kd:=kd) (G:=G) (s0:=s0) (s1:=s1) (s5:=s5) (s8:=s8) (s10:=s10) (s15:=s15) zs (G.length + L.length) (Dk as p a) (L++ [.lst ((Dk as p a).map encA)]) (some (.int z)) y11 y12 y13 y14 (by lia) (by rw [Ov];simp) (by rw [Rp];lia) (λb hb=>by
   rcases ZDJ hb with rfl | hb
   ·exact ao
   ·exact ho b hb)
  refine ⟨as',L',q',z9,z11,z12,z13,z14,h1,h2,by rw [h3,Rp,List.length_cons];lia,h4,λb hb=>h5 b (ZA1 hb),?_⟩;rw [List.map_cons,H8];simp only [Fj,R.Dp,List.set,hb,Ef];exact hL
theorem cut13 (ns:List Int) (c:Nat):∃zs:List Int,zs.length<=c/\cutD (ns.map D.int) (some 13) (some (13 + (c:Int)))=zs.map D.int:=by
 have a1:=(Jo (ns.map D.int).length 13).2;have a2:=(Jo (ns.map D.int).length (13 + (c:Int))).1;refine ⟨(ns.drop (HT.sIx (ns.map D.int).length 0 (some 13))).take (HT.sIx (ns.map D.int).length (ns.map D.int).length (some (13 + (c:Int))) - HT.sIx (ns.map D.int).length 0 (some 13)),?_,?_⟩
 ·rw [if_neg (by decide)] at a1;rw [if_neg (show¬(13 + (c:Int)) < 0 by lia)] at a2;rw [List.length_take];generalize HT.sIx (ns.map D.int).length 0 (some 13)=u1 at *;generalize HT.sIx (ns.map D.int).length (ns.map D.int).length (some (13 + (c:Int)))=u2 at *;have h1:min (13:Int) ((ns.map D.int).length:Int)<=u1:=by rw [a1];exact Int.le_max_right ..
  have h2:(u2:Int)<=max 0 (13 + (c:Int)):=by rw [a2];exact Int.max_le.mpr ⟨Int.le_max_left ..,Int.le_trans (Int.min_le_left ..) (Int.le_max_right ..)⟩
  have h3:u2 - u1<=c:=by
   by_cases q:(13:Int)<=((ns.map D.int).length:Int)
   ·rw [Int.min_eq_left q] at h1;rw [Int.max_eq_right (by lia)] at h2;lia
   ·have h4:(u2:Int)<=((ns.map D.int).length:Int):=by rw [a2];exact Int.max_le.mpr ⟨by lia,Int.min_le_right ..⟩
    rw [Int.min_eq_right (by lia)] at h1;lia
  exact Nat.le_trans (Nat.min_le_left ..) h3
 ·unfold cutD;rw [List.map_take,List.map_drop]
theorem fars (ht:t < 3):∃f:Int,1<=f/\f<=100/\∀H:DH,An (.fl [.int 1,.int 1,.int 100]) (.int (t:Int)) H=.ok (.int f) H:=by
 match t,ht with
 | 0,_=>exact ⟨1,by decide,by decide,λ_=>rfl⟩
 | 1,_=>exact ⟨1,by decide,by decide,λ_=>rfl⟩
 | 2,_=>exact ⟨100,by decide,by decide,λ_=>rfl⟩
 | n + 3,h=>exact absurd h (by lia)
theorem cuts4 (ht:t < 4):∃c:Nat,c<=10/\∀H:DH,An (.fl [.int 10,.int 10,.int 10,.int 5]) (.int (t:Int)) H=.ok (.int (c:Int)) H:=by
 match t,ht with
 | 0,_=>exact ⟨10,by decide,λ_=>rfl⟩
 | 1,_=>exact ⟨10,by decide,λ_=>rfl⟩
 | 2,_=>exact ⟨10,by decide,λ_=>rfl⟩
 | 3,_=>exact ⟨5,by decide,λ_=>rfl⟩
 | n + 4,h=>exact absurd h (by lia)
theorem supp1 (ns:List Int) (kd sc:Int) (hsc:0 < sc) (hsc2:sc<=10 ^ 30) (n:Nat):∃s:List Int,s.length=n/\(∀v∈s,0<=v/\v < 10 ^ 39)/\∀(s0:Option D) (G:DH),Df (gV 0) Cd U5 [s0,some (.fl (ns.map D.int)),some (.int kd),some (.int sc)] (Bf 0 n) G=.ok (s.map D.int) G:=by
 have h:∀k:Nat,∃v:Int,(0<=v/\v < 10 ^ 39)/\∀G,Jj [.int (cellAt ns (7 + (k:Int))),.int kd,.int sc] G=.ok (.int v) G:=λk=>ZDH _ _ _ hsc hsc2
 let f:Nat->Int:=λk=>Classical.choose (h k)
 have hf:∀k,(0<=f k/\f k < 10 ^ 39)/\∀G,Jj [.int (cellAt ns (7 + (k:Int))),.int kd,.int sc] G=.ok (.int (f k)) G:=λk=>Classical.choose_spec (h k)
 refine ⟨(List.range n).map f,by simp,λv hv=> ?_,λs0 G=> ?_⟩
 ·obtain ⟨k,_,rfl⟩:=List.mem_map.mp hv;exact (hf k).1
 ·rw [ZAd (F:=λk=>.int (f k)),List.map_map]
  ·rfl
  ·intro k hk;unfold U5;have ca:∀H:DH,Gu [.fl (ns.map D.int),.int (7 + (k:Int))] H=.ok (.int (cellAt ns (7 + (k:Int)))) H:=λH=>Rx (by lia)
   simp [ca,(hf k).2]
theorem supp2 (s:List Int) (cell:Int) (hs:∀v∈s,0<=v/\v < 10 ^ 39):∃s':List Int,s'.length=s.length/\(∀v∈s',0<=v/\v < 10 ^ 39)/\∀(s0:Option D) (G:DH),Df (gV 0) Cd Ut [s0,some (.int cell),some (.fl (s.map D.int))] (Bf 0 s.length) G=.ok (s'.map D.int) G:=by
 refine ⟨(List.range s.length).map λk:Nat=>s.getD k 0 * (if (k:Int) % 8=cell / 7 % 8 then 1 else 0),by simp,λv hv=> ?_,λs0 G=> ?_⟩
 ·obtain ⟨k,hk,rfl⟩:=List.mem_map.mp hv;have hk:=List.mem_range.mp hk;have:0<=s.getD k 0/\s.getD k 0 < 10 ^ 39:=by rw [List.getD_eq_getElem?_getD,List.getElem?_eq_getElem hk];exact hs _ (List.getElem_mem hk)
  split
  ·lia
  ·lia
 ·rw [ZAd (F:=λk=>.int (s.getD k 0 * (if (k:Int) % 8=cell / 7 % 8 then 1 else 0))),List.map_map]
  ·rfl
  ·intro k hk;have gt:atI (s.map D.int) (k:Int)=some (.int (s.getD k 0)):=Fe (k:=k) (by lia) (by rw [List.getElem?_map,List.getElem?_eq_getElem hk,List.getD_eq_getElem?_getD,List.getElem?_eq_getElem hk];rfl);unfold Ut;by_cases h:(k:Int) % 8=cell / 7 % 8
   ·simp [gt,h]
   ·simp [gt,h]
theorem ZJh (cell:Int) (kd:Nat) (lg:Bool) (hlk:lg=true->kd < 3):∃n:Nat,1<=n/\n<=30/\(n:Int)=(if lg=true then 11 + cell / 96 % 20 else if kd=3 then 1 + cell / 16 % 2 else 1 + cell / 16 % 6):=by
 cases lg with
 | true=>
  have h1:=Int.emod_nonneg (cell / 96) (show (20:Int)≠0 by decide);have h2:=Int.emod_lt_of_pos (cell / 96) (show (0:Int) < 20 by decide);exact ⟨(11 + cell / 96 % 20).toNat,by lia,by lia,by simp;lia⟩
 | false=>
  by_cases h:kd=3
  ·exact ⟨(1 + cell / 16 % 2).toNat,by lia,by lia,by simp [h];lia⟩
  ·exact ⟨(1 + cell / 16 % 6).toNat,by lia,by lia,by simp [h];lia⟩
section
variable {N Z S1 S2:List D} {cell sc far:Int} {kd n c t2 t3 t4:Nat} {lg:Bool} {T Q:D} {G H1 H2:DH} {v0 v1 v2 v3 v4 v5 v6 v7 v8 v9 v10 v11 v12 v13 v14:Option D} {X S:DSt}
theorem ZEV (i1:inR (n:Int)) (m1:S1.length<=1000000) (m2:S2.length<=1000000) (k3:Df (gV 0) Cd U5 [none,v0,v2,v3] (Bf 0 n) H2=.ok S1 H2) (k4:Df (gV 0) Cd Ut [none,some (.int cell),some (.fl S1)] (Bf 0 n) H2=.ok S2 H2)
  (fa:freeze H2 (.ok (.ref H2.length) (H2++ [.lst S1]))=.ok (.fl S1) H2) (fb:freeze H2 (.ok (.ref H2.length) (H2++ [.lst S2]))=.ok (.fl S2) H2):
  Uk [v0,some (.int cell),v2,v3,some (.int n),some (.bl lg),v6,some Q,v8,v9,v10,v11,v12,v13,v14,none] H2=.rt (.tup [.int n,Q,.fl (if lg=true then S2 else S1)]) H2:=by
 have c3:Bh 1 [0,2,3] [v0,some (.int cell),v2,v3,some (.int n),some (.bl lg),v6,some Q,v8,v9,v10,v11,v12,v13,v14,none]= [none,v0,v2,v3]:=rfl;have c4:Bh 1 [1,15] [v0,some (.int cell),v2,v3,some (.int n),some (.bl lg),v6,some Q,v8,v9,v10,v11,v12,v13,v14,some (.fl S1)]= [none,some (.int cell),some (.fl S1)]:=rfl;have s14:∀S3,Wz [v0,some (.int cell),v2,v3,some (.int n),some (.bl lg),v6,some Q,v8,v9,v10,v11,v12,v13,v14,some (.fl S3)] H2=.rt (.tup [.int n,Q,.fl S3]) H2:=λS3=>by unfold Wz;simp
 unfold Uk ZAo;cases lg with
 | true=>simp [i1,c3,k3,Ar,m1,fa,c4,k4,m2,fb,s14]
 | false=>simp [i1,c3,k3,Ar,m1,fa,s14]
theorem ZJX (fd:freeze H1 (.ok (.ref H1.length) (H1++ [.lst [.int 10,.int 10,.int 10,.int 5]]))=.ok (.fl [.int 10,.int 10,.int 10,.int 5]) H1) (ec:An (.fl [.int 10,.int 10,.int 10,.int 5]) (.int (kd:Int)) H1=.ok (.int (c:Int)) H1) (ez:cutD N (some 13) (some (13 + (c:Int)))=Z) (fc:freeze H1 (.ok (.ref H1.length) (H1++ [.lst Z]))=.ok (.fl Z) H1)
  (r2:Bu (gV 9) Oo Z (some (.fl N)::v1::some (.int kd)::X) H1=.nx S H2) (s12:Uk S H2=.rt T H2):Rh (some (.fl N)::v1::some (.int kd)::X) H1=.rt T H2:=by
 unfold Rh;simp [Ar,fd,ec,ez,fc,r2,s12]
theorem ZGE (i1:inR (n:Int)) (r1:Bu (gV 8) N8 (Bf 0 n) (v0::v1::v2::v3::some (.int n)::v5::v6::some (.ref G.length)::X) (G++ [.lst []])=.nx S H1) (s11:Rh S H1=.rt T H2):V7 (v0::v1::v2::v3::some (.int n)::v5::v6::v7::X) G=.rt T H2:=by have tn:tidy G (.ok (.ref G.length) (G++ [.lst []]))=.ok (.ref G.length) (G++ [.lst []]):=Hz rfl;unfold V7 ZCB;simp [Ar,tn,i1,r1,s11]
theorem ZKo (e4:Di [.int cell,.int 10103,.int 3] G=.ok (.int (t4:Int)) G) (ef:An (.fl [.int 1,.int 1,.int 100]) (.int (t4:Int)) G=.ok (.int far) G) (s9:V7 (v0::some (.int cell)::v2::v3::v4::v5::some (.int far)::X) G=.rt T H2):Sx (v0::some (.int cell)::v2::v3::v4::v5::v6::X) G=.rt T H2:=by have fz2:freeze G (.ok (.ref G.length) (G++ [.lst [.int 1,.int 1,.int 100]]))=.ok (.fl [.int 1,.int 1,.int 100]) G:=Cg rfl;unfold Sx;simp [Ar,fz2,e4,ef,s9]
theorem ZI0 {w:Int} (en:(n:Int)=if lg=true then 11 + cell / 96 % 20 else w) (s8:Sx (v0::some (.int cell)::v2::v3::some (.int n)::some (.bl lg)::X) G=.rt T H2):Ve (v0::some (.int cell)::v2::v3::some (.int w)::some (.bl lg)::X) G=.rt T H2:=by
 unfold Ve;cases lg with
 | true=>
  rw [if_pos rfl] at en;simp [<-en,s8]
 | false=>
  rw [if_neg (by decide)] at en;rw [<-en];simp [s8]
theorem ZLQ (e3:Di [.int cell,.int 10271,.int 8] G=.ok (.int (t3:Int)) G) (s7:Ve (v0::some (.int cell)::some (.int kd)::v3::v4::some (.bl (decide (kd < 3) && decide (t3=1)))::X) G=.rt T H2):Um (v0::some (.int cell)::some (.int kd)::v3::v4::v5::X) G=.rt T H2:=by
 unfold Um;by_cases q1:kd < 3
 ·have q2:(kd:Int) < 3:=by lia
  have q3:decide ((t3:Int)=1)=decide (t3=1):=decide_eq_decide.mpr (by lia);rw [decide_eq_true q1,Bool.true_and] at s7;simp [q2,e3,q3,s7]
 ·have q2:¬(kd:Int) < 3:=by lia
  rw [decide_eq_false q1,Bool.false_and] at s7;simp [q2,s7]
theorem ZJC (s6:Um (v0::some (.int cell)::some (.int kd)::v3::some (.int (if kd=3 then 1 + cell / 16 % 2 else 1 + cell / 16 % 6))::X) G=.rt T H2):Ux (v0::some (.int cell)::some (.int kd)::v3::some (.int (1 + cell / 16 % 6))::X) G=.rt T H2:=by
 unfold Ux;by_cases q1:kd=3
 ·subst q1;rw [if_pos rfl] at s6;simp;exact s6
 ·rw [if_neg q1] at s6;have q2:¬(kd:Int)=3:=by lia
  simp [q2,s6]
theorem ZJ9 (e2:cell / 4 % 4=(t2:Int)) (es:An (.fl [.int 1,.int 1,.int 1000000007,.int 1000000000000000000000000000000]) (.int (t2:Int)) G=.ok (.int sc) G) (s5:Ux (v0::some (.int cell)::v2::some (.int sc)::some (.int (1 + cell / 16 % 6))::X) G=.rt T H2):Xy (v0::some (.int cell)::v2::v3::v4::X) G=.rt T H2:=by have fz1:freeze G (.ok (.ref G.length) (G++ [.lst [.int 1,.int 1,.int 1000000007,.int 1000000000000000000000000000000]]))=.ok (.fl [.int 1,.int 1,.int 1000000007,.int 1000000000000000000000000000000]) G:=Cg rfl;unfold Xy ZDk;simp [Ar,fz1,e2,es,s5]
end
theorem ZHf (ns:List Int) (G:DH):∃(n:Nat) (as:List Arc) (s:List Int),NetOk n as s/\(∀x∈s,x < 10 ^ 39)/\freeze G (Kh [.fl (ns.map D.int)] G)=.ok (.tup [.int n,.fl (as.map encA),.fl (s.map D.int)]) G:=by
 have c0:∀H:DH,Gu [.fl (ns.map D.int),.int 0] H=.ok (.int (cellAt ns 0)) H:=λH=>Rx (by decide)
 have c1:∀H:DH,Gu [.fl (ns.map D.int),.int 1] H=.ok (.int (cellAt ns 1)) H:=λH=>Rx (by decide)
 generalize cellAt ns 0=cell at *;generalize cellAt ns 1=one at *;by_cases hd:0<=one/\one < 1000000000000000000
 ·obtain ⟨kd,ek,hkd⟩:=Vx cell (show 0 < 4 by decide);obtain ⟨t2,e2,ht2⟩:=Vx (cell / 4) (show 0 < 4 by decide);obtain ⟨sc,hsc,hsc2,esc⟩:=scales ht2 (H:=G);obtain ⟨t3,ht3,e3⟩:=Hl cell 10271 (by decide) (show 0 < 8 by decide);obtain ⟨t4,ht4,e4⟩:=Hl cell 10103 (by decide) (show 0 < 3 by decide);obtain ⟨far,f1,f2,efar⟩:=fars ht4;obtain ⟨c,hc,ec⟩:=cuts4 hkd;obtain ⟨lg,elg⟩:∃lg:Bool,lg=(decide (kd < 3) && decide (t3=1)):=⟨_,rfl⟩
  obtain ⟨n,n1,n2,en⟩:=ZJh cell kd lg (λh=>by rw [h] at elg;simp at elg;lia);obtain ⟨as1,l1,o1,w1,r1⟩:=ZBw (ns:=ns) (n:=n) (lg:=lg) f1 f2 (G:=G) (s1:=some (.int cell)) (s2:=some (.int kd)) (s3:=some (.int sc)) (s11:=none) (s12:=none) (s13:=none) (s14:=none) (s15:=none) n 0 (by lia);obtain ⟨y8,y9,y10,r1⟩:=r1 [] none none none (by simp;lia);obtain ⟨zs,lz,ez⟩:=cut13 ns c;obtain ⟨as2,L2,q2,z9,z11,z12,z13,z14,h1,h2,h3,h4,h5,r2⟩:=ZDh (n:=n) (kd:=kd) n1 n2 hsc hsc2 f1 f2 (G:=G) (s0:=some (.fl (ns.map D.int))) (s1:=some (.int cell)) (s5:=some (.bl lg)) (s8:=y8) (s10:=y10) (s15:=none) zs G.length as1 [.lst (as1.map encA)] y9 none none none none (by lia) (by rw [Td];rfl) (by lia) o1
  obtain ⟨s1,ls1,hs1,r3⟩:=supp1 ns kd sc hsc hsc2 n;obtain ⟨s2,ls2,hs2,r4⟩:=supp2 s1 cell hs1;have hss:∀x∈(if lg=true then s2 else s1),0<=x/\x < 10 ^ 39:=by
   split
   ·exact hs2
   ·exact hs1
  refine ⟨n,as2,if lg=true then s2 else s1,⟨n1,n2,by lia,h4,λk hk=> ?_,?_,λx hx=>(hss x hx).1,λx hx=>by have:=(hss x hx).2;lia⟩,λx hx=>(hss x hx).2,?_⟩
  ·obtain ⟨a,ha,h⟩:=w1 k (by lia) hk;exact ⟨a,h5 a ha,h⟩
  ·split <;> lia
  have fz:=λB hB=>ZG0 (n:=(n:Int)) (B:=B) h1 h2 Nx hB
  have q2b:bels G.length [.int (n:Int),.ref q2,.fl ((if lg=true then s2 else s1).map D.int)]=false:=by simp [bels,bel];lia
  have td:=λH:DH=>Xx (G:=G) (G':=H) q2b
  have fr:=fz _ (Ci (m:=G.length) (xs:=if lg=true then s2 else s1));have i1:inR (n:Int):=⟨by lia,by lia⟩;have r1':Bu (gV 8) N8 (Bf 0 n) [some (.fl (ns.map D.int)),some (.int cell),some (.int kd),some (.int sc),some (.int n),some (.bl lg),some (.int far),some (.ref G.length),none,none,none,none,none,none,none,none] (G++ [.lst []])=.nx [some (.fl (ns.map D.int)),some (.int cell),some (.int kd),some (.int sc),some (.int n),some (.bl lg),some (.int far),some (.ref G.length),y8,y9,y10,none,none,none,none,none] (G++ [.lst (as1.map encA)]):=r1
  have fin:Kh [.fl (ns.map D.int)] G=.ok (.tup [.int n,.ref q2,.fl ((if lg=true then s2 else s1).map D.int)]) (G++L2):=by
   have k4:=r4 none (G++L2);rw [ls1] at k4
   have eT:(if lg=true then s2 else s1).map D.int=if lg=true then s2.map D.int else s1.map D.int:=by cases lg <;> rfl
   have s12:=ZEV (lg:=lg) (v6:=some (.int far)) (Q:=.ref q2) (v8:=y8) (v9:=z9) (v10:=y10) (v11:=z11) (v12:=z12) (v13:=z13) (v14:=z14) i1 (by simp;lia) (by simp;lia) (r3 none (G++L2)) k4 (Cg Ci) (Cg Ci);rw [<-eT] at s12;have s11:=ZJX (Cg rfl) (ec _) ez (Cg Ci) r2 s12;have s7:=ZI0 en (ZKo (v6:=none) (e4 G) (efar G) (ZGE (v7:=none) i1 r1' s11));rw [elg] at s7;have s3:=ZJ9 (v3:=none) (v4:=none) e2 esc (ZJC (ZLQ (v5:=none) (e3 G) s7))
   rw [<-elg] at s3;clear s7 s11 s12 k4 r1' r1 r2 r3 r4 fr fz ez ec efar e3 e4;have ek':cell % 4=(kd:Int):=ek;generalize D.tup [.int n,.ref q2,.fl ((if lg=true then s2 else s1).map D.int)]=T at s3 td ⊢;generalize ns.map D.int=N at s3 c0 c1 ⊢;unfold Kh O7 Zu ZBU;rw [Ck];simp [c0,c1,hd.1,hd.2,ek',s3,td]
  rw [fin];exact fr
 ·obtain ⟨n,as,s,ok,ok39,q,r,L,h1,h2,h3,h4,h⟩:=ZGM one G;refine ⟨n,as,s,ok,ok39,?_⟩;have td:=λH:DH=>Xx (G:=G) (G':=H) (ds:= [.int n,.ref q,.ref r]) (by simp [bels,bel];lia)
  have tn:tidy G (.ok (.ref G.length) (G++ [.lst [.int one]]))=.ok (.ref G.length) (G++ [.lst [.int one]]):=Hz rfl;have fin:Kh [.fl (ns.map D.int)] G=.ok (.tup [.int n,.ref q,.ref r]) (G++L):=by
   unfold Kh O7 Zu;rw [Ck];by_cases h0:0<=one
   ·have h9:¬one < 1000000000000000000:=λh9=>hd ⟨h0,h9⟩
    simp [c0,c1,h0,h9,tn,h,td]
   ·simp [c0,c1,h0,tn,h,td]
  rw [fin,ZHe h1 h2 h3 h4 Nx Ci]
noncomputable def Af (as:List Arc):Nat->Arc:=λi=>as.getD i ⟨0,0,none,0⟩
noncomputable def Aa (xs:List Int):Nat->Int:=λi=>xs.getD i 0
structure BestOk (n:Nat) (as:List Arc) (s:List Int) (e:Int) (f p:List Int):Prop where
 lf:f.length=as.length
 lp:p.length=n
 fe:Feas n as.length (Af as) (Aa s) (Aa f)
 sl:Slack as.length (Af as) (Aa f) (Aa p)
 ea:e=J0 (Af as) as.length (Aa f)
 tw:∀u,u < n->∃k,TW as.length (Af as) (Aa f) (Aa p) n k u
 pb:∀v∈p,-1000000000<=v/\v<=1000000000
theorem ZBF {i:Int} (G:DH):Oe [.int i] G=.ok (.bl true) G:=by unfold Oe O1;rw [Ck];simp [Dr,tyD]
theorem ZLY (hG:G[i]? =some (.lst (xs.map D.int))):Dy i (gV 0) Cd Zb (none::S) (xs.map D.int).length 0 G=.ok ((xs.map λ_=>true).map D.bl) G:=by
 rw [ZCP (F:=λ_=>some (.bl true)) hG (λx hx=> ?_)]
 ·rw [List.filterMap_eq_map',List.map_map,List.map_map]
  rfl
 ·obtain ⟨v,_,rfl⟩:=List.mem_map.mp hx;refine ⟨some (.int v)::S,by simp,.inr ⟨rfl,.bl true,?_,rfl⟩⟩;unfold Zb;simp [ZBF]
theorem ZFt {f p:List Int} (hf:f.length=A.length) (hp:p.length=n) (hA:A.length<=1000) (hn:n<=1000) (G:DH):U3 [.tup [.int e,.fl (f.map D.int),.fl (p.map D.int)],.int n,.fl A] G=.ok (.bl true) G:=by
 have hc:=ZLY (i:=G.length) (xs:=f++p) (S:= []) (G:=G++ [.lst ((f++p).map D.int)]) (by rw [Td];rfl);have hcs:∀S:DSt,Bh 1 [] S= [none]:=λ_=>rfl
 have l1:(f.map D.int).length + (p.map D.int).length<=1000000:=by simp;lia
 have l2:(((f++p).map λ_=>true).map D.bl).length<=1000000:=by simp;lia
 have g0:(G++ [.lst ((f++p).map D.int)])[G.length]? =some (.lst ((f++p).map D.int)):=by rw [Td];rfl
 have fz:freeze G (.ok (.ref (G.length + 1)) (G++ [.lst ((f++p).map D.int),.lst (((f++p).map λ_=>true).map D.bl)]))=.ok (.fl (((f++p).map λ_=>true).map D.bl)) G:=ZCg [.lst ((f++p).map D.int),.lst (((f++p).map λ_=>true).map D.bl)] (k:=1) rfl (Kc λ_ _=>rfl);have al:(((f++p).map λ_=>true).all id)=true:=by simp
 have al2:Mv [.fl (((f++p).map λ_=>true).map D.bl)] G=.ok (.bl true) G:=by rw [ZFl,al]
 have lf:(f.map D.int).length=A.length:=by simp [hf]
 have lp:(p.map D.int).length=n:=by simp [hp]
 generalize ((f++p).map λ_=>true).map D.bl=T at *;have ea:∀H:DH,Ay (.fl (f.map D.int)) (.fl (p.map D.int)) H=.ok (.ref H.length) (H++ [.lst ((f++p).map D.int)]):=λH=>by rw [Ku,if_pos l1,List.map_append]
 generalize f.map D.int=F at *;generalize p.map D.int=P at *;generalize (f++p).map D.int=Q at *;have it:Em (.ref G.length) (G++ [.lst Q])=.ok (.mt G.length) (G++ [.lst Q]):=by simp [Em]
 unfold U3 Tg;rw [Ck];simp [-Ku,it,tyD,ZBF,lf,lp,ea,g0,hcs,hc,Ar,l2,fz,al2,Dr]
theorem Ig (h:i < as.length):Af as i=as[i]:=by
 unfold Af;rw [List.getD_eq_getElem?_getD,List.getElem?_eq_getElem h]
 rfl
theorem Gh (h:i < xs.length):Aa xs i=xs[i]:=by
 unfold Aa;rw [List.getD_eq_getElem?_getD,List.getElem?_eq_getElem h]
 rfl
theorem Jk (h:i < xs.length):atI (xs.map D.int) (i:Int)=some (.int (Aa xs i)):=Fe (k:=i) (by lia) (by rw [List.getElem?_map,List.getElem?_eq_getElem h,Gh h];rfl)
theorem Zf (h:i<=xs.length):atI (xs.map D.int++ [.int 0]) (i:Int)=some (.int (Aa xs i)):=by
 refine Fe (k:=i) (by lia) ?_;by_cases e:i < xs.length
 ·rw [List.getElem?_append_left (by simpa using e),List.getElem?_map,List.getElem?_eq_getElem e,Gh e]
  rfl
 ·have e2:i=xs.length:=by lia
  subst e2;unfold Aa;simp
theorem ZCp (h:i < as.length):atI (as.map encA) (i:Int)=some (encA (Af as i)):=Fe (k:=i) (by lia) (by rw [List.getElem?_map,List.getElem?_eq_getElem h,Ig h];rfl)
theorem ArcOk.of (h:∀x∈as,ArcOk n x) (hi:i < as.length):ArcOk n (Af as i):=by rw [Ig hi];exact h _ (List.getElem_mem hi)
theorem ZIy {t x:Nat->Int} (hp:p n=0) (ha:∀i,i < m->(a i).fr < n/\(a i).to<=n) (X:Feas n m a t x):J0 a m x=Ag m (λi=>x i * ((a i).ga + p (a i).to - p (a i).fr)) + Ag n λu=>p u * t u:=by
 have h1:=ZCS hp ha X;have h2:Ag m (λi=>x i * ((a i).ga + p (a i).to - p (a i).fr)) + Ag m (λi=>x i * p (a i).fr)=J0 a m x + Ag m (λi=>x i * p (a i).to):=by
  rw [<-Dz];unfold J0;rw [<-Dz];refine Cu λi _=> ?_
  rw [Int.mul_sub,Int.mul_add];lia
 lia
theorem ZGU (h:∀x∈as,ArcOk n x):∀i,i < as.length->(Af as i).fr < n/\(Af as i).to<=n:=λ_ hi=>⟨(ArcOk.of h hi).lt,(ArcOk.of h hi).le⟩
theorem BestOk.p0 {f p:List Int} (b:BestOk n as s e f p):Aa p n=0:=by
 unfold Aa;rw [List.getD_eq_getElem?_getD,List.getElem?_eq_none (by rw [b.lp];lia)]
 rfl
noncomputable def gP (P:List (Option Int)) (u:Nat):Option Int:=P.getD u none
noncomputable def dP (P:List (Option Int)) (u:Nat):Int:=(gP P u).getD 0
theorem Ob {x:Option Int} (hu:u < P.length):gP (P.set u x) w=if w=u then x else gP P w:=by
 unfold gP;simp only [List.getD_eq_getElem?_getD];by_cases e:w=u
 ·subst e;rw [List.getElem?_set_self hu,if_pos rfl]
  rfl
 ·rw [List.getElem?_set_ne λz=>e z.symm,if_neg e]
structure Lks where
 n:Nat
 q:Nat
 fr:Nat->Nat
 to:Nat->Nat
 wo:Nat->Int
structure Lks.Ok (N:Lks):Prop where
 fr:∀l,l < N.q->N.fr l<=N.n
 to:∀l,l < N.q->N.to l<=N.n
 ne:∀l,l < N.q->N.fr l≠N.to l
 wb:∀l,l < N.q-> -40000<=N.wo l
 wu:∀l,l < N.q->N.wo l<=40000
noncomputable def Lks.Way (N:Lks) (rm:Nat->Int):Prop:=∀u,u < N.n->∃l,l < N.q/\N.fr l=u/\u < N.to l/\0 < rm l
noncomputable def Lks.Pot (N:Lks) (rm W:Nat->Int):Prop:=∀l,l < N.q->0 < rm l->W (N.to l) + N.wo l + (if N.fr l=N.n then 2 else 0)<=W (N.fr l)
structure Lks.Fix (N:Lks) (rm W:Nat->Int):Prop where
 z:W N.n=0
 fix:∀l,l < N.q->0 < rm l->N.fr l < N.n->W (N.to l) + N.wo l<=W (N.fr l)
 att:∀u,u < N.n->∃l,l < N.q/\N.fr l=u/\0 < rm l/\W u=W (N.to l) + N.wo l
 lo:∀u,u < N.n-> -(40000 * (N.n:Int))<=W u
noncomputable def pick (x:Option Int) (w:Int):Option Int:=match x with
 | none=>some w
 | some z=>if z < w then some w else some z
noncomputable def Lks.rl (N:Lks) (rm:Nat->Int) (P:List (Option Int)) (x:Option Int) (l:Nat):Option Int:=
 if 0 < rm l then (match gP P (N.to l) with
  | none=>x
  | some y=>pick x (y + N.wo l)) else x
noncomputable def Lks.bw (N:Lks) (rm:Nat->Int) (P:List (Option Int)) (ls:List Nat) (x:Option Int):Option Int:=ls.foldl (N.rl rm P) x
section
variable {N:Lks} {rm π:Nat->Int} {P:List (Option Int)}
theorem ZIk {x:Option Int} (h:x=some z):∃y,N.rl rm P x l=some y/\z<=y:=by
 subst h;unfold Lks.rl;split
 ·split
  ·exact ⟨z,rfl,Int.le_refl _⟩
  ·unfold pick;dsimp only;split
   ·exact ⟨_,rfl,by lia⟩
   ·exact ⟨_,rfl,Int.le_refl _⟩
 ·exact ⟨z,rfl,Int.le_refl _⟩
theorem ZHM {x:Option Int} {y:Int} (h:0 < rm l) (hy:gP P (N.to l)=some y):∃z,N.rl rm P x l=some z/\y + N.wo l<=z:=by
 unfold Lks.rl;rw [if_pos h,hy];unfold pick;cases x with
 | none=>exact ⟨_,rfl,Int.le_refl _⟩
 | some z=>
  dsimp only;split
  ·exact ⟨_,rfl,Int.le_refl _⟩
  ·exact ⟨_,rfl,by lia⟩
theorem ZES {x:Option Int} :N.rl rm P x l=x∨∃y,0 < rm l/\gP P (N.to l)=some y/\N.rl rm P x l=some (y + N.wo l):=by
 unfold Lks.rl;split
 ·rename_i h;split
  ·exact .inl rfl
  ·rename_i y hy;unfold pick;cases x with
   | none=>exact .inr ⟨y,h,hy,rfl⟩
   | some z=>
    dsimp only;split
    ·exact .inr ⟨y,h,hy,rfl⟩
    ·exact .inl rfl
 ·exact .inl rfl
theorem Qh:∀(ls:List Nat) {x:Option Int} {z:Int},x=some z->∃y,N.bw rm P ls x=some y/\z<=y
 | [],x,z,h=>⟨z,h,Int.le_refl _⟩
 | l::ls,x,z,h=>by obtain ⟨y,h1,h2⟩:=ZIk (N:=N) (rm:=rm) (P:=P) (l:=l) h;obtain ⟨w,h3,h4⟩:=Qh ls h1;exact ⟨w,h3,by lia⟩
theorem Xd:∀(ls:List Nat) {x:Option Int} {l:Nat} {y:Int},l∈ls->0 < rm l->gP P (N.to l)=some y->∃z,N.bw rm P ls x=some z/\y + N.wo l<=z
 | k::ls,x,l,y,hm,h,hy=>by
  rcases List.mem_cons.mp hm with rfl | hm
  ·obtain ⟨z,h1,h2⟩:=ZHM (N:=N) (x:=x) h hy;obtain ⟨w,h3,h4⟩:=Qh ls h1;exact ⟨w,h3,by lia⟩
  ·exact Xd ls (x:=N.rl rm P x k) hm h hy
theorem ZAM:∀(ls:List Nat) (x:Option Int),N.bw rm P ls x=x∨∃l y,l∈ls/\0 < rm l/\gP P (N.to l)=some y/\N.bw rm P ls x=some (y + N.wo l)
 | [],x=>.inl rfl
 | k::ls,x=>by
  have e:N.bw rm P (k::ls) x=N.bw rm P ls (N.rl rm P x k):=rfl;rw [e];rcases ZAM ls (N.rl rm P x k) with h | ⟨l,y,h1,h2,h3,h4⟩
  ·rcases ZES (N:=N) (rm:=rm) (P:=P) (x:=x) (l:=k) with h' | ⟨y,h2,h3,h4⟩
   ·exact .inl (h.trans h')
   ·exact .inr ⟨k,y,by simp,h2,h3,h.trans h4⟩
  ·exact .inr ⟨l,y,by simp [h1],h2,h3,h4⟩
structure WV (N:Lks) (rm π:Nat->Int) (P:List (Option Int)):Prop where
 len:P.length=N.n + 1
 z:gP P N.n=some 0
 up:∀u x,gP P u=some x->u<=N.n->x<=π u
 att:∀u x,u < N.n->gP P u=some x->∃l y,l < N.q/\N.fr l=u/\0 < rm l/\gP P (N.to l)=some y/\x<=y + N.wo l
noncomputable def LkOf (N:Lks) (lk:Nat->List Nat):Prop:=∀u l,l∈lk u↔l < N.q/\N.fr l=u
noncomputable def lowP (N:Lks) (P:List (Option Int)) (u:Nat):Prop:=∃x,gP P u=some x/\ -(40000 * ((N.n:Int) - u))<=x
theorem ZFw (ok:N.Ok) (hl:LkOf N lk) (pot:N.Pot rm π) (K:WV N rm π P) (hu:u < N.n):WV N rm π (P.set u (N.bw rm P (lk u) (gP P u))):=by
 have hlen:=K.len;have g:∀w,gP (P.set u (N.bw rm P (lk u) (gP P u))) w=if w=u then N.bw rm P (lk u) (gP P u) else gP P w:=λw=>Ob (by lia)
 have up:∀w x,gP P w=some x->∃y,gP (P.set u (N.bw rm P (lk u) (gP P u))) w=some y/\x<=y:=λw x h=>by
  rw [g];split
  ·rename_i e;subst e;exact Qh (lk w) h
  ·exact ⟨x,h,Int.le_refl _⟩
 refine ⟨by rw [List.length_set];exact hlen,by rw [g,if_neg (by lia)];exact K.z,λw x h hw=> ?_,λw x hw h=> ?_⟩
 ·rw [g] at h;split at h
  ·rename_i e;subst e;rcases ZAM (N:=N) (rm:=rm) (P:=P) (lk w) (gP P w) with h' | ⟨l,y,h1,h2,h3,h4⟩
   ·exact K.up w x (h'.symm.trans h) hw
   ·rw [h4] at h;cases h;obtain ⟨e1,e2⟩:=(hl w l).mp h1;have h5:=K.up _ _ h3 (ok.to l e1);have h6:=pot l e1 h2;rw [e2,if_neg (by lia)] at h6;lia
  ·exact K.up w x h hw
 ·have old:∀x,gP P w=some x->∃l y,l < N.q/\N.fr l=w/\0 < rm l/\gP (P.set u (N.bw rm P (lk u) (gP P u))) (N.to l)=some y/\x<=y + N.wo l:=λx h=>by obtain ⟨l,y,h1,h2,h3,h4,h5⟩:=K.att w x hw h;obtain ⟨y',h6,h7⟩:=up _ _ h4;exact ⟨l,y',h1,h2,h3,h6,by lia⟩
  rw [g] at h;split at h
  ·rename_i e;subst e;rcases ZAM (N:=N) (rm:=rm) (P:=P) (lk w) (gP P w) with h' | ⟨l,y,h1,h2,h3,h4⟩
   ·exact old x (h'.symm.trans h)
   ·rw [h4] at h;cases h;obtain ⟨e1,e2⟩:=(hl w l).mp h1;obtain ⟨y',h6,h7⟩:=up _ _ h3;exact ⟨l,y',e1,e2,h2,h6,by lia⟩
  ·exact old x h
theorem ZGt (K:WV N rm π P) (hu:u < N.n) (h:gP P w=some x):∃y,gP (P.set u (N.bw rm P (lk u) (gP P u))) w=some y/\x<=y:=by
 have hlen:=K.len;rw [Ob (by lia)];split
 ·rename_i e;subst e;exact Qh (lk w) h
 ·exact ⟨x,h,Int.le_refl _⟩
theorem ZEq (ok:N.Ok) (hl:LkOf N lk) (way:N.Way rm) (K:WV N rm π P) (hu:u < N.n) (h:∀v,u < v->v<=N.n->lowP N P v):∀v,u<=v->v<=N.n->lowP N (P.set u (N.bw rm P (lk u) (gP P u))) v:=λv h1 h2=>by
 by_cases e:v=u
 ·subst e;obtain ⟨l,q1,q2,q3,q4⟩:=way v hu;obtain ⟨y,q5,q6⟩:=h (N.to l) (by lia) (ok.to l q1);obtain ⟨z,q7,q8⟩:=Xd (N:=N) (P:=P) (lk v) (x:=gP P v) ((hl v l).mpr ⟨q1,q2⟩) q4 q5;have hlen:=K.len;refine ⟨z,by rw [Ob (by lia),if_pos rfl];exact q7,?_⟩;have:=ok.wb l q1;lia
 ·obtain ⟨x,q1,q2⟩:=h v (by lia) h2;obtain ⟨y,q3,q4⟩:=ZGt (lk:=lk) K hu q1;exact ⟨y,q3,by lia⟩
noncomputable def Lks.dn (N:Lks) (rm:Nat->Int) (lk:Nat->List Nat):Nat->List (Option Int)->List (Option Int)
 | 0,P=>P
 | k + 1,P=>N.dn rm lk k (P.set k (N.bw rm P (lk k) (gP P k)))
noncomputable def Lks.still (N:Lks) (rm:Nat->Int) (lk:Nat->List Nat):Nat->List (Option Int)->Bool
 | 0,_=>true
 | k + 1,P=>decide (N.bw rm P (lk k) (gP P k)=gP P k) && N.still rm lk k (P.set k (N.bw rm P (lk k) (gP P k)))
noncomputable def msP (N:Lks) (π:Nat->Int) (P:List (Option Int)) (u:Nat):Int:=match gP P u with
 | none=>π u + 40000 * (N.n:Int) + 1
 | some x=>π u - x
theorem set_same {x:Option Int} (h:x=gP P k) (hk:k < P.length):P.set k x=P:=by
 refine List.ext_getElem? λi=> ?_
 by_cases e:k=i
 ·subst e;rw [List.getElem?_set_self hk,h];unfold gP;rw [List.getD_eq_getElem?_getD,List.getElem?_eq_getElem hk]
  rfl
 ·rw [List.getElem?_set_ne e]
theorem ZDN (ok:N.Ok) (hl:LkOf N lk) (way:N.Way rm) (pot:N.Pot rm π):∀(k:Nat) {P:List (Option Int)},WV N rm π P->k<=N.n->(∀v,k<=v->v<=N.n->lowP N P v)->
  WV N rm π (N.dn rm lk k P)/\(∀v,v<=N.n->lowP N (N.dn rm lk k P) v)/\(N.still rm lk k P=true->N.dn rm lk k P=P/\∀u,u < k->N.bw rm P (lk u) (gP P u)=gP P u)/\
  Ag N.n (msP N π (N.dn rm lk k P)) + (if N.still rm lk k P=true then 0 else 1)<=Ag N.n (msP N π P)
 | 0,P,K,_,h=>⟨K,λv hv=>h v (Nat.zero_le _) hv,λ_=>⟨rfl,λu hu=>absurd hu (Nat.not_lt_zero _)⟩,by show _ + (if true=true then (0:Int) else 1)<=_;rw [if_pos rfl];exact Int.le_of_eq (Int.add_zero _)⟩
 | k + 1,P,K,hk,h=>by
  have hlen:=K.len;have K1:=ZFw ok hl pot K (u:=k) (by lia);have L1:=ZEq ok hl way K (u:=k) (by lia) λv q1 q2=>h v (by lia) q2
  obtain ⟨r1,r2,r3,r4⟩:=ZDN ok hl way pot k K1 (by lia) L1;refine ⟨r1,r2,λhs=> ?_,?_⟩
  ·have hs':(decide (N.bw rm P (lk k) (gP P k)=gP P k) && N.still rm lk k (P.set k (N.bw rm P (lk k) (gP P k))))=true:=hs;rw [Bool.and_eq_true,decide_eq_true_eq] at hs';have e:=set_same (P:=P) hs'.1 (by lia);obtain ⟨q1,q2⟩:=r3 hs'.2;rw [e] at q1 q2;refine ⟨by show N.dn rm lk k _=P;rw [e];exact q1,λu hu=> ?_⟩;by_cases e2:u=k
   ·rw [e2];exact hs'.1
   ·exact q2 u (by lia)
  ·by_cases e:N.bw rm P (lk k) (gP P k)=gP P k
   ·have e1:=set_same (P:=P) e (by lia);have e2:N.still rm lk (k + 1) P=N.still rm lk k P:=by
     show (decide (N.bw rm P (lk k) (gP P k)=gP P k) && N.still rm lk k (P.set k (N.bw rm P (lk k) (gP P k))))=_;rw [e1,decide_eq_true e]
     rfl
    rw [e2];show Ag N.n (msP N π (N.dn rm lk k (P.set k (N.bw rm P (lk k) (gP P k))))) + _<=_;rw [e1] at r4 ⊢;exact r4
   ·have e2:N.still rm lk (k + 1) P=false:=by
     show (decide (N.bw rm P (lk k) (gP P k)=gP P k) && _)=_;rw [decide_eq_false e]
     rfl
    rw [e2];show Ag N.n (msP N π (N.dn rm lk k (P.set k (N.bw rm P (lk k) (gP P k))))) + (if false=true then (0:Int) else 1)<=_;rw [if_neg (by decide)];have dec:∀v,v < N.n->msP N π (P.set k (N.bw rm P (lk k) (gP P k))) v + (if v=k then 1 else 0)<=msP N π P v:=λv hv=>by
     by_cases ev:v=k
     ·rw [if_pos ev];subst ev;obtain ⟨z,q1,q2⟩:=L1 v (Nat.le_refl _) (by lia);have q1':=q1;rw [Ob (by lia),if_pos rfl] at q1';unfold msP;rw [q1];cases hp:gP P v with
      | none=>dsimp only;lia
      | some x=>
       obtain ⟨y,q3,q4⟩:=Qh (N:=N) (rm:=rm) (P:=P) (lk v) hp;rw [q1'] at q3;cases q3;have ne:z≠x:=λz'=>e (by rw [q1',hp,z'])
       dsimp only;lia
     ·rw [if_neg ev];unfold msP;rw [Ob (by lia),if_neg ev];lia
    have s1:=Ea dec;rw [Dz,Gp (x:=λ_=>1) (show k < N.n by lia)] at s1
    have:0<=(if N.still rm lk k (P.set k (N.bw rm P (lk k) (gP P k)))=true then (0:Int) else 1):=by split <;> decide
    lia
theorem ZIY (K:WV N rm π P) (hπ:∀u,u < N.n-> -(40000 * (N.n:Int))<=π u):0<=Ag N.n (msP N π P):=by
 have h:∀u,u < N.n->0<=msP N π P u:=λu hu=>by
  unfold msP;cases e:gP P u with
  | none=>have:=hπ u hu;dsimp only;lia
  | some x=>have:=K.up u x e (by lia);dsimp only;lia
 have:=Ea (f:=λ_=>0) h;rw [Gn] at this;exact this
theorem ZJl (ok:N.Ok) (hl:LkOf N lk) (K:WV N rm π P) (lo:∀v,v<=N.n->lowP N P v) (st:∀u,u < N.n->N.bw rm P (lk u) (gP P u)=gP P u):N.Fix rm (dP P)/\∀u,u<=N.n->dP P u<=π u:=by
 have val:∀u,u<=N.n->gP P u=some (dP P u):=λu hu=>by
  obtain ⟨x,h,_⟩:=lo u hu;unfold dP;rw [h]
  rfl
 have fix:∀l,l < N.q->0 < rm l->N.fr l < N.n->dP P (N.to l) + N.wo l<=dP P (N.fr l):=λl h1 h2 h3=>by obtain ⟨z,q1,q2⟩:=Xd (N:=N) (P:=P) (lk (N.fr l)) (x:=gP P (N.fr l)) ((hl _ l).mpr ⟨h1,rfl⟩) h2 (val _ (ok.to l h1));rw [st _ h3,val _ (by lia)] at q1;have:=Option.some.inj q1;lia
 refine ⟨⟨by unfold dP;rw [K.z];rfl,fix,λu hu=> ?_,λu hu=> ?_⟩,λu hu=>K.up u _ (val u hu) hu⟩
 ·obtain ⟨l,y,h1,h2,h3,h4,h5⟩:=K.att u _ hu (val u (by lia));rw [val _ (ok.to l h1)] at h4;cases h4;have:=fix l h1 h3 (by lia);rw [h2] at this;exact ⟨l,h1,h2,h3,by lia⟩
 ·obtain ⟨x,h1,h2⟩:=lo u (by lia);rw [val u (by lia)] at h1;cases h1;lia
end
theorem pigeon:∀(n:Nat) (l:List Nat),l.Nodup->(∀x∈l,x < n)->l.length<=n
 | 0,l,_,h=>by
  cases l with
  | nil=>exact Nat.le_refl _
  | cons x l=>exact absurd (h x (by simp)) (by lia)
 | n + 1,l,hd,h=>by
  have h1:=pigeon n (l.erase n) (hd.erase n) λx hx=>by have h2:=(hd.mem_erase_iff).mp hx;have h3:=h x h2.2;have h4:=h2.1;lia
  by_cases hm:n∈l
  ·rw [List.length_erase_of_mem hm] at h1;lia
  ·rw [List.erase_of_not_mem hm] at h1;lia
noncomputable def Lks.Sc (N:Lks) (ga:Nat->Int):Prop:=∀l,l < N.q->N.wo l=ga l * ((N.n:Int) + 1) - 1
noncomputable def lnk (N:Lks) (W:Nat->Int) (u:Nat):Int:= -W u % ((N.n:Int) + 1)
noncomputable def gn (N:Lks) (W:Nat->Int) (u:Nat):Int:= -(-W u / ((N.n:Int) + 1))
section
variable {N:Lks} {rm W ga:Nat->Int}
theorem K5 (u:Nat):0<=lnk N W u/\lnk N W u<=N.n:=by have h1:=Int.emod_nonneg (-W u) (show ((N.n:Int) + 1)≠0 by lia);have h2:=Int.emod_lt_of_pos (-W u) (show 0 < ((N.n:Int) + 1) by lia);unfold lnk;lia
theorem Ra (u:Nat):W u=gn N W u * ((N.n:Int) + 1) - lnk N W u:=by have h:=Int.emod_add_mul_ediv (-W u) ((N.n:Int) + 1);unfold gn lnk;rw [Int.neg_mul,Int.mul_comm];lia
theorem ZC2 (sc:N.Sc ga) (hl:l < N.q) (h:W (N.fr l)=W (N.to l) + N.wo l):lnk N W (N.fr l)=(lnk N W (N.to l) + 1) % ((N.n:Int) + 1):=by
 unfold lnk;rw [Int.add_emod,Int.emod_emod,<-Int.add_emod,h,sc l hl];have e: -(W (N.to l) + (ga l * ((N.n:Int) + 1) - 1))= -W (N.to l) + 1 + ((N.n:Int) + 1) * (-ga l):=by rw [Int.mul_neg,Int.mul_comm];lia
 rw [e,Int.add_mul_emod_self_left]
theorem Wm (ok:N.Ok) (sc:N.Sc ga) (F:N.Fix rm W) (hu:u < N.n):1<=lnk N W u:=by
 refine Int.not_lt.mp λhlt=> ?_
 have h0:lnk N W u=0:=by have:=(K5 (N:=N) (W:=W) u).1;lia
 have ch:∀t:Nat,t<=N.n->∃v,v < N.n/\lnk N W v=if t=0 then 0 else (N.n:Int) + 1 - t:=λt=>by
  induction t with
  | zero=>exact λ_=>⟨u,hu,h0⟩
  | succ t ih=>
   intro ht;obtain ⟨v,hv,e⟩:=ih (by lia);obtain ⟨l,h1,h2,h3,h4⟩:=F.att v hv;have e2:=ZC2 sc h1 (by rw [h2];exact h4);rw [h2] at e2;have b1:=K5 (N:=N) (W:=W) (N.to l);have hto:lnk N W (N.to l)=(N.n:Int) + 1 - (t + 1:Nat):=by
    by_cases c:lnk N W (N.to l)=N.n
    ·rw [c,Int.emod_self] at e2;rw [e2] at e;split at e
     ·lia
     ·lia
    ·rw [Int.emod_eq_of_lt (by lia) (by lia)] at e2;split at e
     ·lia
     ·lia
   refine ⟨N.to l,?_,by rw [if_neg (by lia)];exact hto⟩;have h5:=ok.to l h1;by_cases c:N.to l=N.n
   ·have:lnk N W (N.to l)=0:=by
     unfold lnk;rw [c,F.z]
     rfl
    lia
   ·lia
 have hch:∀c:Nat,c<=N.n->∃v,v < N.n/\lnk N W v=c:=λc hc=>by
  by_cases e:c=0
  ·exact ⟨u,hu,by rw [e];exact h0⟩
  ·obtain ⟨v,h1,h2⟩:=ch (N.n + 1 - c) (by lia);refine ⟨v,h1,?_⟩;rw [if_neg (by lia)] at h2;lia
 have fx:∃f:Nat->Nat,∀c,c<=N.n->f c < N.n/\lnk N W (f c)=c:=⟨λc=>if h:c<=N.n then (hch c h).choose else 0,λc hc=>by dsimp only;rw [dif_pos hc];exact (hch c hc).choose_spec⟩
 obtain ⟨f,hf⟩:=fx;have:=pigeon N.n ((List.range (N.n + 1)).map f) (by
  rw [List.nodup_iff_pairwise_ne,List.pairwise_map];refine (List.pairwise_lt_range (n:=N.n + 1)).imp_of_mem λ{a b} ha hb hab e=> ?_
  have h1:=(hf a (by have:=List.mem_range.mp ha;lia)).2;have h2:=(hf b (by have:=List.mem_range.mp hb;lia)).2;rw [e] at h1;lia) λx hx=>by
  obtain ⟨c,hc,rfl⟩:=List.mem_map.mp hx;exact (hf c (by have:=List.mem_range.mp hc;lia)).1
 rw [List.length_map,List.length_range] at this;lia
theorem ZEo {S:Int} (hS:0 < S) (h: -S < x * S):0<=x:=by
 refine Int.not_lt.mp λhx=> ?_
 have:=Int.mul_le_mul_of_nonneg_right (show x<= -1 by lia) (Int.le_of_lt hS);lia
theorem ZCo (ok:N.Ok) (sc:N.Sc ga) (F:N.Fix rm W) (pot:N.Pot rm W) (hl:l < N.q) (hr:0 < rm l):gn N W (N.to l) + ga l<=gn N W (N.fr l):=by
 have e1:=Ra (N:=N) (W:=W) (N.fr l);have e2:=Ra (N:=N) (W:=W) (N.to l);have b1:=K5 (N:=N) (W:=W) (N.fr l);have b2:=K5 (N:=N) (W:=W) (N.to l);have p:=pot l hl hr;rw [sc l hl] at p;have p1:1<=lnk N W (N.fr l) + (if N.fr l=N.n then 2 else 0):=by
  split
  ·lia
  ·have:=Wm ok sc F (u:=N.fr l) (by have:=ok.fr l hl;lia);lia
 have:=ZEo (x:=gn N W (N.fr l) - gn N W (N.to l) - ga l) (S:=(N.n:Int) + 1) (by lia) (by rw [Int.sub_mul,Int.sub_mul];lia)
 lia
theorem ZBx (ok:N.Ok) (sc:N.Sc ga) (F:N.Fix rm W) (hl:l < N.q) (hf:N.fr l < N.n) (h:W (N.fr l)=W (N.to l) + N.wo l):gn N W (N.fr l)=gn N W (N.to l) + ga l/\lnk N W (N.fr l)=lnk N W (N.to l) + 1:=by
 have t:=ZC2 sc hl h;have p:=Wm ok sc F hf;have b2:=K5 (N:=N) (W:=W) (N.to l);have hL:lnk N W (N.fr l)=lnk N W (N.to l) + 1:=by
  by_cases c:lnk N W (N.to l)=N.n
  ·rw [c,Int.emod_self] at t;lia
  ·rw [Int.emod_eq_of_lt (by lia) (by lia)] at t;exact t
 refine ⟨?_,hL⟩;have e1:=Ra (N:=N) (W:=W) (N.fr l);have e2:=Ra (N:=N) (W:=W) (N.to l);rw [sc l hl] at h;have e3:(gn N W (N.fr l) - gn N W (N.to l) - ga l) * ((N.n:Int) + 1)=0:=by rw [Int.sub_mul,Int.sub_mul];lia
 rcases Int.mul_eq_zero.mp e3 with z | z <;> lia
theorem fall {rm' W':Nat->Int} (ok:N.Ok) (pot:N.Pot rm' W) (F:N.Fix rm' W') (le:∀u,u<=N.n->W' u<=W u) (hu:u < N.n) (full:∀l,l < N.q->N.fr l=u->W u=W (N.to l) + N.wo l->rm' l=0):W' u + 1<=W u:=by
 obtain ⟨l,h1,h2,h3,h4⟩:=F.att u hu;have h5:=pot l h1 h3;have h6:=le (N.to l) (ok.to l h1);rw [h2,if_neg (by lia)] at h5;by_cases e:W u=W (N.to l) + N.wo l
 ·have:=full l h1 h2 e;lia
 ·lia
end
noncomputable def mate (l:Nat):Nat:=if l % 2=0 then l + 1 else l - 1
theorem ZJ5 (l:Nat):mate (mate l)=l:=by
 unfold mate;by_cases h:l % 2=0
 ·rw [if_pos h,if_neg (by lia)];lia
 ·rw [if_neg h,if_pos (by lia)];lia
theorem ZGr (l:Nat):mate l≠l:=by
 unfold mate
 split <;> lia
structure Lks.Mt (N:Lks):Prop where
 lt:∀l,l < N.q->mate l < N.q
 fr:∀l,l < N.q->N.fr (mate l)=N.to l
 to:∀l,l < N.q->N.to (mate l)=N.fr l
 wo:∀l,l < N.q->N.wo (mate l)= -2 - N.wo l
theorem M5 (h:i < xs.length):Aa (xs.set i x) k=if k=i then x else Aa xs k:=by
 unfold Aa;simp only [List.getD_eq_getElem?_getD];by_cases e:k=i
 ·subst e;rw [List.getElem?_set_self h,if_pos rfl]
  rfl
 ·rw [List.getElem?_set_ne λz=>e z.symm,if_neg e]
structure LR where
 L:List Int
 R:List Int
variable {y:LR}
noncomputable def LR.sa (N:Lks) (x:LR) (u l:Nat) (c:Int):LR:=
 ⟨(x.L.set u (Aa x.L u - c)).set (N.to l) (Aa (x.L.set u (Aa x.L u - c)) (N.to l) + c),(x.R.set l (Aa x.R l - c)).set (mate l) (Aa (x.R.set l (Aa x.R l - c)) (mate l) + c)⟩
structure LR.Ok (N:Lks) (x:LR):Prop where
 ll:x.L.length=N.n + 1
 rl:x.R.length=N.q
 ln:∀u,u<=N.n->0<=Aa x.L u
 rn:∀l,l < N.q->0<=Aa x.R l
section
variable {N:Lks} {W:Nat->Int} {x:LR}
theorem Qn (ok:N.Ok) (K:x.Ok N) (hl:l < N.q) (c:Int) (v:Nat):Aa (x.sa N (N.fr l) l c).L v=Aa x.L v - (if v=N.fr l then c else 0) + (if v=N.to l then c else 0):=by
 have h1:=ok.fr l hl;have h2:=ok.to l hl;have h3:=K.ll;have h4:=ok.ne l hl;unfold LR.sa;dsimp only;rw [M5 (by rw [List.length_set];lia),M5 (by lia)];by_cases e1:v=N.to l
 ·rw [if_pos e1,if_neg (λz=>h4 z.symm),if_neg (λz=>h4 (z.symm.trans e1)),if_pos e1,e1];lia
 ·rw [if_neg e1,M5 (by lia)];by_cases e2:v=N.fr l
  ·rw [if_pos e2,if_pos e2,if_neg e1,e2];lia
  ·rw [if_neg e2,if_neg e2,if_neg e1];lia
theorem Tc (mt:N.Mt) (K:x.Ok N) (hl:l < N.q) (u:Nat) (c:Int) (k:Nat):Aa (x.sa N u l c).R k=Aa x.R k - (if k=l then c else 0) + (if k=mate l then c else 0):=by
 have h1:=mt.lt l hl;have h3:=K.rl;have h4:=ZGr l;unfold LR.sa;dsimp only;rw [M5 (by rw [List.length_set];lia),M5 (by lia)];by_cases e1:k=mate l
 ·rw [if_pos e1,if_neg h4,if_neg (λz=>h4 (e1.symm.trans z)),if_pos e1,e1];lia
 ·rw [if_neg e1,M5 (by lia)];by_cases e2:k=l
  ·rw [if_pos e2,if_pos e2,if_neg e1,e2];lia
  ·rw [if_neg e2,if_neg e2,if_neg e1];lia
theorem ZJ4 (ok:N.Ok) (mt:N.Mt) (K:x.Ok N) (hl:l < N.q) (h0:0<=c) (h1:c<=Aa x.L (N.fr l)) (h2:c<=Aa x.R l):(x.sa N (N.fr l) l c).Ok N:=by
 refine ⟨by unfold LR.sa;simp [K.ll],by unfold LR.sa;simp [K.rl],λv hv=> ?_,λk hk=> ?_⟩
 ·have:=K.ln v hv;rw [Qn ok K hl];by_cases e:v=N.fr l
  ·rw [<-e] at h1;rw [if_pos e]
   split <;> lia
  ·rw [if_neg e]
   split <;> lia
 ·have:=K.rn k hk;rw [Tc mt K hl];by_cases e:k=l
  ·rw [<-e] at h2;rw [if_pos e]
   split <;> lia
  ·rw [if_neg e]
   split <;> lia
noncomputable def tight (N:Lks) (W:Nat->Int) (l:Nat):Prop:=W (N.fr l)=W (N.to l) + N.wo l
noncomputable def Gain (N:Lks) (W:Nat->Int) (R0:Nat->Int) (x:LR):Prop:=∀l,l < N.q->0 < Aa x.R l->0 < R0 l∨tight N W (mate l)
theorem ZF6 {R0:Nat->Int} (mt:N.Mt) (K:x.Ok N) (g:Gain N W R0 x) (hl:l < N.q) (ht:tight N W l) (u:Nat) (h0:0<=c):Gain N W R0 (x.sa N u l c):=λk hk h=>by
 rw [Tc mt K hl] at h;by_cases e:k=mate l
 ·refine .inr ?_;rw [e,ZJ5];exact ht
 ·rw [if_neg e] at h;refine g k hk ?_
  split at h <;> lia
theorem ZE1 (ok:N.Ok) (mt:N.Mt) {R0:Nat->Int} (pot:N.Pot R0 W) (g:Gain N W R0 x):N.Pot (Aa x.R) W:=λl hl h=>by
 rcases g l hl h with z | z
 ·exact pot l hl z
 ·unfold tight at z;rw [mt.fr l hl,mt.to l hl,mt.wo l hl] at z
  split <;> lia
theorem ZCN (ok:N.Ok) {rm π:Nat->Int} (pot:N.Pot rm π) (F:N.Fix rm W) (hz:π N.n=0) (le:∀u,u<=N.n->W u<=π u):N.Pot rm W:=λl hl h=>by
 by_cases e:N.fr l=N.n
 ·have h1:=pot l hl h;have h2:=le _ (ok.to l hl);have h3:=F.z;rw [e,if_pos rfl] at h1 ⊢;lia
 ·rw [if_neg e];have:=F.fix l hl h (by have:=ok.fr l hl;lia);lia
noncomputable def LR.one (N:Lks) (W:Nat->Int) (x:LR) (u l:Nat):LR:=open Classical in if W u=W (N.to l) + N.wo l then x.sa N u l (min (Aa x.L u) (Aa x.R l)) else x
noncomputable def far (N:Lks) (W:Nat->Int) (x:LR):Int:=Ag N.n λu=>Aa x.L u * lnk N W u
structure Kp (N:Lks) (W R0:Nat->Int) (B:LR->Prop) (x:LR):Prop where
 ok:x.Ok N
 g:Gain N W R0 x
 b:B x
structure Snt (N:Lks) (W:Nat->Int) (A:Nat->Prop) (x y:LR):Prop where
 le:far N W y<=far N W x
 same:far N W y=far N W x->(∀u,Aa y.L u=Aa x.L u)/\(∀l,Aa y.R l=Aa x.R l)/\∀l,A l->tight N W l->Aa x.L (N.fr l)=0∨Aa x.R l=0
theorem Snt.refl (x:LR):Snt N W (λ_=>False) x x:=⟨Int.le_refl _,λ_=>⟨λ_=>rfl,λ_=>rfl,λ_ h=>h.elim⟩⟩
theorem Snt.trans {A A':Nat->Prop} {x z:LR} (h:Snt N W A x y) (k:Snt N W A' y z):Snt N W (λl=>A l∨A' l) x z:=by
 have h1:=h.le;have h2:=k.le;refine ⟨by lia,λe=> ?_⟩;obtain ⟨p1,p2,p3⟩:=h.same (by lia);obtain ⟨q1,q2,q3⟩:=k.same (by lia);refine ⟨λu=>(q1 u).trans (p1 u),λl=>(q2 l).trans (p2 l),λl hl ht=> ?_⟩;rcases hl with hl | hl
 ·exact p3 l hl ht
 ·have:=q3 l hl ht;rw [p1,p2] at this;exact this
theorem Snt.imp {A A':Nat->Prop} {x:LR} (h:Snt N W A x y) (w:∀l,A' l->A l):Snt N W A' x y:=⟨h.le,λe=>let ⟨p,q,r⟩:=h.same e;⟨p,q,λl hl=>r l (w l hl)⟩⟩
variable {rm ga R0:Nat->Int} {B:LR->Prop}
theorem ZDZ (ok:N.Ok) (sc:N.Sc ga) (F:N.Fix rm W) (K:x.Ok N) (hl:l < N.q) (hf:N.fr l < N.n) (ht:tight N W l) (c:Int):far N W (x.sa N (N.fr l) l c)=far N W x - c:=by
 have e:∀(w:Nat),w<=N.n->lnk N W N.n=0->Ag N.n (λu=>if u=w then c * lnk N W u else 0)=c * lnk N W w:=λw hw hz=>by
  by_cases h:w < N.n
  ·exact Gp (x:=λu=>c * lnk N W u) h
  ·rw [show w=N.n by lia,hz,Int.mul_zero,Cu (g:=λ_=>0) λk hk=>if_neg (by lia),Gn]
 have hz:lnk N W N.n=0:=by
  unfold lnk;rw [F.z]
  rfl
 have h1:=e _ (ok.fr l hl) hz;have h2:=e _ (ok.to l hl) hz;have h3:=(ZBx ok sc F hl hf ht).2;have h4:far N W (x.sa N (N.fr l) l c) + Ag N.n (λu=>if u=N.fr l then c * lnk N W u else 0)=far N W x + Ag N.n (λu=>if u=N.to l then c * lnk N W u else 0):=by
  unfold far;rw [<-Dz,<-Dz];refine Cu λu _=> ?_
  rw [Qn ok K hl,Int.add_mul,Int.sub_mul];by_cases e1:u=N.fr l
  ·rw [if_pos e1,if_pos e1]
   split <;> lia
  ·rw [if_neg e1,if_neg e1,Int.zero_mul]
   split <;> lia
 rw [h1,h2,h3,Int.mul_add,Int.mul_one] at h4;lia
theorem ZKU (ok:N.Ok) (mt:N.Mt) (sc:N.Sc ga) (F:N.Fix rm W) (hB:∀(y:LR) (l:Nat) (c:Int),y.Ok N->l < N.q->B y->B (y.sa N (N.fr l) l c)) (K:Kp N W R0 B x) (hl:l < N.q) (hf:N.fr l < N.n):Kp N W R0 B (x.one N W (N.fr l) l)/\Snt N W (λk=>k=l) x (x.one N W (N.fr l) l):=by
 unfold LR.one;have h1:=K.ok.ln _ (ok.fr l hl);have h2:=K.ok.rn l hl;split
 ·rename_i h;refine ⟨⟨ZJ4 ok mt K.ok hl (by lia) (by lia) (by lia),ZF6 mt K.ok K.g hl h _ (by lia),hB x l _ K.ok hl K.b⟩,?_,λe=> ?_⟩
  ·rw [ZDZ ok sc F K.ok hl hf h];lia
  ·rw [ZDZ ok sc F K.ok hl hf h] at e;have hc:min (Aa x.L (N.fr l)) (Aa x.R l)=0:=by lia
   refine ⟨λu=> ?_,λk=> ?_,λk hk _=> ?_⟩
   ·rw [Qn ok K.ok hl,hc]
    split <;> split <;> lia
   ·rw [Tc mt K.ok hl,hc]
    split <;> split <;> lia
   ·subst hk;lia
 ·rename_i h;exact ⟨K,Int.le_refl _,λ_=>⟨λ_=>rfl,λ_=>rfl,λk hk ht=>by subst hk;exact absurd ht h⟩⟩
end
noncomputable def gaN (as:List Arc) (l:Nat):Int:=if l % 2=0 then (Af as (l / 2)).ga else -(Af as (l / 2)).ga
noncomputable def lkN (n:Nat) (as:List Arc):Lks where
 n:=n
 q:=2 * as.length
 fr l:=if l % 2=0 then (Af as (l / 2)).fr else (Af as (l / 2)).to
 to l:=if l % 2=0 then (Af as (l / 2)).to else (Af as (l / 2)).fr
 wo l:=gaN as l * ((n:Int) + 1) - 1
theorem O9 (h:l % 2=0):(lkN n as).fr l=(Af as (l / 2)).fr/\(lkN n as).to l=(Af as (l / 2)).to/\gaN as l=(Af as (l / 2)).ga:=⟨if_pos h,if_pos h,if_pos h⟩
theorem Vn (h:¬l % 2=0):(lkN n as).fr l=(Af as (l / 2)).to/\(lkN n as).to l=(Af as (l / 2)).fr/\gaN as l= -(Af as (l / 2)).ga:=⟨if_neg h,if_neg h,if_neg h⟩
theorem Oz:(lkN n as).Sc (gaN as):=λ_ _=>rfl
theorem Le (h:∀x∈as,ArcOk n x) (hn:n<=30):(lkN n as).Ok:=by
 have k:∀l,l < 2 * as.length->ArcOk n (Af as (l / 2)):=λl hl=>ArcOk.of h (by lia)
 have w:∀l,l < 2 * as.length-> -40000<=gaN as l * ((n:Int) + 1) - 1/\gaN as l * ((n:Int) + 1) - 1<=40000:=λl hl=>by
  have h1:=(k l hl).ga
  have h2: -1000<=gaN as l/\gaN as l<=1000:=by unfold gaN;split <;> lia
  have h3:=Int.mul_le_mul_of_nonneg_right h2.1 (show 0<=(n:Int) + 1 by lia);have h4:=Int.mul_le_mul_of_nonneg_right h2.2 (show 0<=(n:Int) + 1 by lia);lia
 refine ⟨λl hl=> ?_,λl hl=> ?_,λl hl=> ?_,λl hl=>(w l hl).1,λl hl=>(w l hl).2⟩ <;>
 ·have a1:=(k l hl).lt;have a2:=(k l hl).up;have a3:=(k l hl).le;show _;simp only [lkN]
  split <;> lia
theorem ZAS:(lkN n as).Mt:=by
 have e:∀l,(l % 2=0->mate l % 2≠0/\mate l / 2=l / 2)/\(l % 2≠0->mate l % 2=0/\mate l / 2=l / 2):=λl=>by
  unfold mate;refine ⟨λh=> ?_,λh=> ?_⟩
  ·rw [if_pos h];lia
  ·rw [if_neg h];lia
 refine ⟨λl hl=> ?_,λl hl=> ?_,λl hl=> ?_,λl hl=> ?_⟩
 ·have hl':l < 2 * as.length:=hl;show mate l < 2 * as.length;unfold mate
  split <;> lia
 all_goals
  simp only [lkN,gaN];by_cases h:l % 2=0
  ·have:=(e l).1 h;rw [if_pos h,if_neg this.1,this.2]
   try (rw [Int.neg_mul];lia)
  ·have:=(e l).2 h;rw [if_neg h,if_pos this.1,this.2]
   try (rw [Int.neg_mul];lia)
noncomputable def flo (x:LR) (i:Nat):Int:=Aa x.R (2 * i + 1)
noncomputable def Gq (wide:Int) (a:Arc):Int:=match a.mo with
 | none=>wide
 | some b=>b
structure Bal (n:Nat) (as:List Arc) (s:Nat->Int) (wide:Int) (x:LR):Prop where
 cap:∀i,i < as.length->Aa x.R (2 * i) + Aa x.R (2 * i + 1)=Gq wide (Af as i)
 bal:∀v,v < n->Aa x.L v=s v - ex (Af as) as.length (flo x) v
theorem ZFb {s:Nat->Int} (ok:(lkN n as).Ok) (K:y.Ok (lkN n as)) (hl:l < (lkN n as).q) (h:Bal n as s wide y):Bal n as s wide (y.sa (lkN n as) ((lkN n as).fr l) l c):=by
 have hl':l < 2 * as.length:=hl;have rr:=λk=>Tc ZAS K hl ((lkN n as).fr l) c k
 have hf:flo (y.sa (lkN n as) ((lkN n as).fr l) l c)=bump (flo y) (l / 2) (if l % 2=0 then c else -c):=by
  funext i;show Aa _ (2 * i + 1)=if i=l / 2 then Aa y.R (2 * i + 1) + _ else Aa y.R (2 * i + 1)
  rw [rr];unfold mate;by_cases h1:l % 2=0
  ·rw [if_pos h1,if_pos h1,if_neg (by lia)];by_cases h2:i=l / 2
   ·rw [if_pos (by lia),if_pos h2];lia
   ·rw [if_neg (by lia),if_neg h2];lia
  ·rw [if_neg h1,if_neg h1];by_cases h2:i=l / 2
   ·rw [if_pos (by lia),if_neg (by lia),if_pos h2];lia
   ·rw [if_neg (by lia),if_neg (by lia),if_neg h2];lia
 refine ⟨λi hi=> ?_,λv hv=> ?_⟩
 ·have:=h.cap i hi;rw [rr,rr];unfold mate;by_cases h1:l % 2=0
  ·rw [if_pos h1];by_cases h2:2 * i=l
   ·rw [if_pos h2,if_neg (by lia),if_neg (by lia),if_pos (by lia)];lia
   ·rw [if_neg h2,if_neg (by lia),if_neg (by lia),if_neg (by lia)];lia
  ·rw [if_neg h1];by_cases h2:2 * i + 1=l
   ·rw [if_neg (by lia),if_pos (by lia),if_pos h2,if_neg (by lia)];lia
   ·rw [if_neg (by lia),if_neg (by lia),if_neg h2,if_neg (by lia)];lia
 ·rw [hf,ZGv (show l / 2 < as.length by lia),Qn ok K hl,h.bal v hv];by_cases h1:l % 2=0
  ·obtain ⟨f1,f2,_⟩:=O9 (n:=n) (as:=as) h1;rw [f1,f2,if_pos h1]
   by_cases e1:(Af as (l / 2)).fr=v <;> by_cases e2:(Af as (l / 2)).to=v <;> simp [e1,e2,eq_comm] <;> lia
  ·obtain ⟨f1,f2,_⟩:=Vn (n:=n) (as:=as) h1;rw [f1,f2,if_neg h1]
   by_cases e1:(Af as (l / 2)).fr=v <;> by_cases e2:(Af as (l / 2)).to=v <;> simp [e1,e2,eq_comm] <;> lia
theorem ZAN {s:Nat->Int} {k:Nat}:∀{n:Nat},k<=n->(∀v,v < n->0<=s v)->Ag k s<=Ag n s
 | 0,hk,_=>by rw [show k=0 by lia];exact Int.le_refl _
 | n + 1,hk,h=>by
  by_cases e:k=n + 1
  ·rw [e];exact Int.le_refl _
  ·have h1:=ZAN (n:=n) (k:=k) (by lia) λv hv=>h v (by lia)
   have h2:=h n (by lia);show _<=Ag n s + s n;lia
theorem ZDX (x:Int) (w:Nat):∀k:Nat,Ag k (λv=>if w=v then x else 0)=if w < k then x else 0
 | 0=>by rw [if_neg (by lia)];rfl
 | k + 1=>by
  show Ag k _ + (if w=k then x else 0)=_;rw [ZDX x w k];by_cases e:w=k
  ·rw [if_neg (by lia),if_pos e,if_pos (by lia)];lia
  ·rw [if_neg e];by_cases e2:w < k
   ·rw [if_pos e2,if_pos (by lia)];lia
   ·rw [if_neg e2,if_neg (by lia)];lia
theorem ZJS {s:Nat->Int} (ha:∀i,i < m->(a i).fr < (a i).to/\(a i).fr < n) (nn:∀i,i < m->0<=f i) (sn:∀v,v < n->0<=s v) (h:∀v,v < n->ex a m f v<=s v) (hi:i < m):f i<=Ag n s:=by
 have hk:=(ha i hi).2;have e1:∀(q:Nat->Nat) (k:Nat),Ag k (λv=>Ag m λj=>if q j=v then f j else 0)=Ag m λj=>if q j < k then f j else 0:=λq k=>by rw [Yk];exact Cu λj _=>ZDX (f j) (q j) k
 have e2:Ag ((a i).fr + 1) (λv=>ex a m f v) + Ag m (λj=>if (a j).to < (a i).fr + 1 then f j else 0)=Ag m λj=>if (a j).fr < (a i).fr + 1 then f j else 0:=by
  rw [<-e1 (λj=>(a j).to),<-e1 (λj=>(a j).fr),<-Dz];refine Cu λv _=> ?_
  unfold ex Bj inA;lia
 have e3:Ag m (λj=>if j=i then f j else 0) + Ag m (λj=>if (a j).to < (a i).fr + 1 then f j else 0)<=Ag m λj=>if (a j).fr < (a i).fr + 1 then f j else 0:=by
  rw [<-Dz];refine Ea λj hj=> ?_
  have h1:=ha j hj;have h2:=nn j hj;by_cases e:j=i
  ·subst e;rw [if_pos rfl,if_neg (by lia),if_pos (by lia)];lia
  ·rw [if_neg e];by_cases e2:(a j).to < (a i).fr + 1
   ·rw [if_pos e2,if_pos (by lia)];lia
   ·rw [if_neg e2]
    split <;> lia
 rw [Gp hi] at e3;have e4:Ag ((a i).fr + 1) (λv=>ex a m f v)<=Ag ((a i).fr + 1) s:=Ea λv hv=>h v (by lia)
 have e5:=ZAN (s:=s) (k:=(a i).fr + 1) (n:=n) (by lia) sn;lia
structure Netw (n:Nat) (as:List Arc) (s:Nat->Int) (wide:Int):Prop where
 n30:n<=30
 arc:∀x∈as,ArcOk n x
 way:∀k,k < n->∃i,i < as.length/\(Af as i).fr=k/\(Af as i).mo=none
 sn:∀v,v < n->0<=s v
 wide:wide=Ag n s + 1
section
variable {n:Nat} {as:List Arc} {s:Nat->Int} {wide:Int} {x:LR}
theorem ZCL (Z:Netw n as s wide) (K:x.Ok (lkN n as)) (B:Bal n as s wide x) (hi:i < as.length) (h:∀b,(Af as i).mo=some b->flo x i < b):0 < Aa x.R (2 * i):=by
 have h1:=B.cap i hi;unfold Gq at h1;cases hm:(Af as i).mo with
 | some b=>
  rw [hm] at h1;have:=h b hm;unfold flo at this;dsimp only at h1;lia
 | none=>
  rw [hm] at h1;have h2:=ZJS (n:=n) (m:=as.length) (a:=Af as) (s:=s) (f:=flo x) (λj hj=>⟨(ArcOk.of Z.arc hj).up,(ArcOk.of Z.arc hj).lt⟩) (λj hj=>K.rn _ (by show 2 * j + 1 < 2 * as.length;lia)) Z.sn (λv hv=>by have q1:=B.bal v hv;have q2:=K.ln v (by show v<=n;lia);lia) hi
  have h3:=Z.wide;unfold flo at h2;dsimp only at h1;lia
theorem ZBL (Z:Netw n as s wide) (K:x.Ok (lkN n as)) (B:Bal n as s wide x):(lkN n as).Way (Aa x.R):=λu hu=>by
 obtain ⟨i,h1,h2,h3⟩:=Z.way u hu;have h4:=(ArcOk.of Z.arc h1).up;refine ⟨2 * i,by show 2 * i < 2 * as.length;lia,?_,?_,ZCL Z K B h1 λb hb=>by rw [h3] at hb;cases hb⟩
 ·simp only [lkN];rw [if_pos (by lia),show 2 * i / 2=i by lia];exact h2
 ·simp only [lkN];rw [if_pos (by lia),show 2 * i / 2=i by lia];lia
theorem ZHw {W:Nat->Int} (Z:Netw n as s wide) (K:x.Ok (lkN n as)) (B:Bal n as s wide x) (F:(lkN n as).Fix (Aa x.R) W) (pot:(lkN n as).Pot (Aa x.R) W):Slack as.length (Af as) (flo x) (gn (lkN n as) W):=by
 have ok:=Le (n:=n) Z.arc Z.n30;refine ⟨λi hi h=> ?_,λi hi h=> ?_⟩
 ·have:=ZCo ok Oz F pot (l:=2 * i) (by show 2 * i < 2 * as.length;lia) (ZCL Z K B hi h);obtain ⟨f1,f2,f3⟩:=O9 (n:=n) (as:=as) (l:=2 * i) (by lia);rw [f1,f2,f3,show 2 * i / 2=i by lia] at this;lia
 ·have:=ZCo ok Oz F pot (l:=2 * i + 1) (by show 2 * i + 1 < 2 * as.length;lia) h;obtain ⟨f1,f2,f3⟩:=Vn (n:=n) (as:=as) (l:=2 * i + 1) (by lia);rw [f1,f2,f3,show (2 * i + 1) / 2=i by lia] at this;lia
theorem ZFz {rm:Nat->Int} (Z:Netw n as s wide) (h:∀i,i < as.length->rm (2 * i + 1)=0):(lkN n as).Pot rm (λu=>40000 * ((n:Int) - u)):=λl hl hr=>by
 have hl':l < 2 * as.length:=hl;have ok:=Le (n:=n) Z.arc Z.n30;have hev:l % 2=0:=by
  refine Decidable.byContradiction λz=> ?_
  have:=h (l / 2) (by lia);rw [show 2 * (l / 2) + 1=l by lia] at this;lia
 have h1:=ok.wu l hl;have h2:=ArcOk.of Z.arc (i:=l / 2) (by lia);have h3:=h2.lt;have h4:=h2.up;obtain ⟨f1,f2,f3⟩:=O9 (n:=n) (as:=as) hev;have h5:¬(Af as (l / 2)).fr=(lkN n as).n:=by show¬(Af as (l / 2)).fr=n;lia
 dsimp only;rw [f1,f2,if_neg h5];lia
end
noncomputable def flds (n l f e w r:Nat):List (Str×D):= [("scale",.int ((n:Int) + 1)),("left",.ref l),("links_from",.ref f),("ends",.ref e),("worths",.ref w),("rooms",.ref r)]
noncomputable def Bc (xs:List Nat):List D:=xs.map λ(i:Nat)=>D.int (i:Int)
structure Ad where
 o:Nat
 l:Nat
 f:Nat
 e:Nat
 w:Nat
 r:Nat
 fa:Nat->Nat
structure Ad.Ok (a:Ad) (n:Nat):Prop where
 lo:a.l≠a.o
 lf:a.l≠a.f
 le:a.l≠a.e
 lw:a.l≠a.w
 lr:a.l≠a.r
 la:∀u,u<=n->a.l≠a.fa u
 ro:a.r≠a.o
 rf:a.r≠a.f
 re:a.r≠a.e
 rw:a.r≠a.w
 ra:∀u,u<=n->a.r≠a.fa u
structure SN (N:Lks) (lk:Nat->List Nat) (a:Ad) (x:LR) (Γ:DH):Prop where
 ad:a.Ok N.n
 ho:Γ[a.o]? =some (.ins "Sending" (flds N.n a.l a.f a.e a.w a.r))
 hl:Γ[a.l]? =some (.lst (x.L.map D.int))
 hf:Γ[a.f]? =some (.lst ((List.range (N.n + 1)).map λu=>D.ref (a.fa u)))
 hfa:∀u,u<=N.n->Γ[a.fa u]? =some (.lst (Bc (lk u)))
 he:Γ[a.e]? =some (.lst (Bc ((List.range N.q).map N.to)))
 hw:Γ[a.w]? =some (.lst (((List.range N.q).map N.wo).map D.int))
 hr:Γ[a.r]? =some (.lst (x.R.map D.int))
theorem ZIr {xs:List Nat} (h:xs[i]? =some k):atI (Bc xs) (i:Int)=some (.int (k:Int)):=Fe (k:=i) (by lia) (by unfold Bc;rw [List.getElem?_map,h];rfl)
theorem ZF4 {f:Nat->Nat} (h:l < q):atI (Bc ((List.range q).map f)) (l:Int)=some (.int (f l:Int)):=ZIr (by rw [List.getElem?_map,List.getElem?_range h];rfl)
theorem ZEv (h:l < q):atI (((List.range q).map f).map D.int) (l:Int)=some (.int (f l)):=Fe (k:=l) (by lia) (by rw [List.getElem?_map,List.getElem?_map,List.getElem?_range h];rfl)
theorem Q7 (h:i < xs.length):atI (xs.map D.int) (i:Int)=some (.int (Aa xs i)):=Jk h
theorem Z0 (h:i < P.length):atI (P.map moD) (i:Int)=some (moD (gP P i)):=Fe (k:=i) (by lia) (by
 unfold gP;rw [List.getElem?_map,List.getElem?_eq_getElem h,List.getD_eq_getElem?_getD,List.getElem?_eq_getElem h]
 rfl)
theorem Ip {p:Nat} {xs:List D} {i:Int} {v:D} (h:Γ[p]? =some (.lst xs)) (h2:atI xs i=some v):An (.ref p) (.int i) Γ=.ok v Γ:=by rw [Tn,h];dsimp only;rw [h2]
theorem ZBc {g:DG} {b:DS} {xs:List D} (h:G[i]? =some (.lst xs)) (hl:xs.length<=j):DL.forM i g b 0 j S G=.nx S G:=by
 show (match G[i]? with | some (.lst xs)=>if xs.length<=j then SR.nx S G else .bad | _=>.bad)=_
 rw [h];exact if_pos hl
theorem ZCx {g:DG} {b:DS} {xs:List D} {x:D} (h:G[i]? =some (.lst xs)) (hx:xs[j]? =some x):DL.forM i g b (k + 1) j S G=(g x S G).toS λS1 G1=>aft (b S1 G1) (DL.forM i g b k (j + 1)):=by
 show (match G[i]? with | some (.lst xs)=>(match xs[j]? with | some x=>(g x S G).toS λS1 G1=>aft (b S1 G1) (DL.forM i g b k (j + 1)) | none=>.nx S G) | _=>.bad)=_
 rw [h];dsimp only;rw [hx]
section
variable {N:Lks} {lk:Nat->List Nat} {a:Ad} {x:LR} {Γ:DH}
theorem SN.scale (K:SN N lk a x Γ):Ep "Sending" "scale" (.ref a.o) Γ=.ok (.int ((N.n:Int) + 1)) Γ:=Ge K.ho rfl
theorem SN.left (K:SN N lk a x Γ):Ep "Sending" "left" (.ref a.o) Γ=.ok (.ref a.l) Γ:=Ge K.ho rfl
theorem SN.from (K:SN N lk a x Γ):Ep "Sending" "links_from" (.ref a.o) Γ=.ok (.ref a.f) Γ:=Ge K.ho rfl
theorem SN.ends (K:SN N lk a x Γ):Ep "Sending" "ends" (.ref a.o) Γ=.ok (.ref a.e) Γ:=Ge K.ho rfl
theorem SN.worths (K:SN N lk a x Γ):Ep "Sending" "worths" (.ref a.o) Γ=.ok (.ref a.w) Γ:=Ge K.ho rfl
theorem SN.rooms (K:SN N lk a x Γ):Ep "Sending" "rooms" (.ref a.o) Γ=.ok (.ref a.r) Γ:=Ge K.ho rfl
theorem SN.meth (K:SN N lk a x Γ) {m:Str} {F:List D->DH->R D} {t:DA} (hm:∀n l f e w r,(flds n l f e w r).lookup m=none):Ib "Sending" m F t S (.ref a.o) Γ=(t S Γ).bind λds G2=>F (.ref a.o::ds) G2:=ZEj K.ho (hm _ _ _ _ _ _)
theorem SN.ixE (K:SN N lk a x Γ) (h:l < N.q):An (.ref a.e) (.int (l:Int)) Γ=.ok (.int (N.to l:Int)) Γ:=Ip K.he (ZF4 h)
theorem SN.ixW (K:SN N lk a x Γ) (h:l < N.q):An (.ref a.w) (.int (l:Int)) Γ=.ok (.int (N.wo l)) Γ:=Ip K.hw (ZEv h)
theorem SN.ixR (K:SN N lk a x Γ) (o:x.Ok N) (h:l < N.q):An (.ref a.r) (.int (l:Int)) Γ=.ok (.int (Aa x.R l)) Γ:=Ip K.hr (Q7 (by rw [o.rl];exact h))
theorem SN.ixL (K:SN N lk a x Γ) (o:x.Ok N) (h:u<=N.n):An (.ref a.l) (.int (u:Int)) Γ=.ok (.int (Aa x.L u)) Γ:=Ip K.hl (Q7 (by rw [o.ll];lia))
theorem SN.ixF (K:SN N lk a x Γ) (h:u<=N.n):An (.ref a.f) (.int (u:Int)) Γ=.ok (.ref (a.fa u)) Γ:=Ip K.hf (Fe (k:=u) (by lia) (by rw [List.getElem?_map,List.getElem?_range (by lia)];rfl))
theorem SN.itF (K:SN N lk a x Γ) (h:u<=N.n):Em (.ref (a.fa u)) Γ=.ok (.mt (a.fa u)) Γ:=by simp [Em,K.hfa u h]
theorem ZHm {w:Int} (K:SN N lk a x Γ):Ni [.ref a.o,.int w] Γ=.ok (.int (-w % ((N.n:Int) + 1))) Γ:=by
 have h1:=K.scale;have h2:0 < (N.n:Int) + 1:=by lia
 unfold Ni W5;rw [Ck];simp [h1,h2,Dr]
theorem ZFU {w:Int} (hn:N.n < 1000) (K:SN N lk a x Γ):K9 [.ref a.o,.int w] Γ=.ok (.int (-(-w / ((N.n:Int) + 1)))) Γ:=by have h1:=K.scale;have h2:Es (.int (-w)) (.int ((N.n:Int) + 1)) Γ=.ok (.int (-w / ((N.n:Int) + 1))) Γ:=divS (by lia) (by lia);unfold K9 V5;rw [Ck];simp [h1,h2,Dr]
theorem ZCV {y:Nat} (K:SN N lk a x Γ) (o:x.Ok N) (ok:N.Ok) (hl:LkOf N lk) (hy:Γ[y]? =some (.lst (P.map moD))) (hP:P.length=N.n + 1) (hu:u<=N.n) {s1:Option D}:∀(ls pre:List Nat) (z:Option Int) (z4 z5 z6:Option D),lk u=pre++ls->
  ∃w4 w5 w6,forM (a.fa u) (gV 4) Qo ls.length pre.length [some (.ref a.o),s1,some (.ref y),some (moD z),z4,z5,z6] Γ=.nx [some (.ref a.o),s1,some (.ref y),some (moD (N.bw (Aa x.R) P ls z)),w4,w5,w6] Γ
 | [],pre,z,z4,z5,z6,h=>by refine ⟨z4,z5,z6,?_⟩;exact ZBc (K.hfa u hu) (by rw [h];simp [Bc])
 | l::ls,pre,z,z4,z5,z6,h=>by
  have hm:=(hl u l).mp (by rw [h];simp);have hlq:=hm.1;have h1:=K.ends;have h2:=K.rooms;have h3:=K.worths;have h4:=K.ixE hlq;have h5:=K.ixR o hlq;have h6:=K.ixW hlq;have h7:atI (P.map moD) (N.to l:Int)=some (moD (gP P (N.to l))):=Z0 (by have:=ok.to l hlq;lia);have h8:An (.ref y) (.int (N.to l:Int)) Γ=.ok (moD (gP P (N.to l))) Γ:=Ip hy h7;have hb:∃w5 w6,Qo [some (.ref a.o),s1,some (.ref y),some (moD z),some (.int (l:Int)),z5,z6] Γ=.nx [some (.ref a.o),s1,some (.ref y),some (moD (N.rl (Aa x.R) P z l)),some (.int (l:Int)),w5,w6] Γ:=by
   have tA:sAs (dOp An (dV 2) (dOp An (Bl "Sending" (dV 0) "ends") (dV 4))) (gV 5) [some (.ref a.o),s1,some (.ref y),some (moD z),some (.int (l:Int)),z5,z6] Γ=.nx [some (.ref a.o),s1,some (.ref y),some (moD z),some (.int (l:Int)),some (moD (gP P (N.to l))),z6] Γ:=by simp [h1,h4,h8]
   have v1:dOp An (Bl "Sending" (dV 0) "rooms") (dV 4) [some (.ref a.o),s1,some (.ref y),some (moD z),some (.int (l:Int)),some (moD (gP P (N.to l))),z6] Γ=.ok (.int (Aa x.R l)) Γ:=by simp [h2,h5]
   have v2:dV 5 [some (.ref a.o),s1,some (.ref y),some (moD z),some (.int (l:Int)),some (moD (gP P (N.to l))),z6] Γ=.ok (moD (gP P (N.to l))) Γ:=by simp
   unfold Qo Lks.rl;rw [ZA8,tA,ZBv];clear tA;by_cases q1:0 < Aa x.R l
   ·rw [if_pos q1];cases q2:gP P (N.to l) with
    | none=>
     rw [q2] at v1 v2;refine ⟨some (moD none),z6,?_⟩;dsimp only;generalize dOp An (Bl "Sending" (dV 0) "rooms") (dV 4)=E1 at *;generalize dV 5=E2 at *;generalize [some (.ref a.o),s1,some (.ref y),some (moD z),some (.int (l:Int)),some (moD none),z6]=S at *;simp [v1,v2,q1,moD,Ew]
    | some v=>
     rw [q2] at v1 v2;have tB:sAs (dOp Ay (dV 5) (dOp An (Bl "Sending" (dV 0) "worths") (dV 4))) (gV 6) [some (.ref a.o),s1,some (.ref y),some (moD z),some (.int (l:Int)),some (moD (some v)),z6] Γ=.nx [some (.ref a.o),s1,some (.ref y),some (moD z),some (.int (l:Int)),some (moD (some v)),some (.int (v + N.wo l))] Γ:=by simp [h3,h6,moD]
     refine ⟨some (moD (some v)),some (.int (v + N.wo l)),?_⟩;have tC:sIf (dOr (Bb (dOp Jd (dV 3) (dC .non))) (Bb (dOp Jg (dV 3) (dV 6)))) (sAs (dV 6) (gV 3)) sNx [some (.ref a.o),s1,some (.ref y),some (moD z),some (.int (l:Int)),some (moD (some v)),some (.int (v + N.wo l))] Γ=.nx [some (.ref a.o),s1,some (.ref y),some (moD (pick z (v + N.wo l))),some (.int (l:Int)),some (moD (some v)),some (.int (v + N.wo l))] Γ:=by
      cases z with
      | none=>simp [moD,Ew,pick]
      | some t=>by_cases q3:t < v + N.wo l <;> simp [moD,Ew,pick,q3]
     generalize sIf (dOr (Bb (dOp Jd (dV 3) (dC .non))) (Bb (dOp Jg (dV 3) (dV 6)))) (sAs (dV 6) (gV 3)) sNx=Z2 at *;generalize sAs (dOp Ay (dV 5) (dOp An (Bl "Sending" (dV 0) "worths") (dV 4))) (gV 6)=Z1 at *;generalize dOp An (Bl "Sending" (dV 0) "rooms") (dV 4)=E1 at *;generalize dV 5=E2 at *;generalize [some (.ref a.o),s1,some (.ref y),some (moD z),some (.int (l:Int)),some (moD (some v)),z6]=S at *
     simp [v1,v2,q1,moD,Ew,tB];exact tC
   ·rw [if_neg q1];refine ⟨some (moD (gP P (N.to l))),z6,?_⟩;generalize dOp An (Bl "Sending" (dV 0) "rooms") (dV 4)=E1 at *;generalize [some (.ref a.o),s1,some (.ref y),some (moD z),some (.int (l:Int)),some (moD (gP P (N.to l))),z6]=S at *;simp [v1,q1]
  obtain ⟨w5,w6,hb⟩:=hb;obtain ⟨v4,v5,v6,hL⟩:=ZCV K o ok hl hy hP hu (s1:=s1) ls (pre++ [l]) (N.rl (Aa x.R) P z l) (some (.int (l:Int))) w5 w6 (by rw [h];simp);refine ⟨v4,v5,v6,?_⟩;have hx:(Bc (lk u))[pre.length]? =some (.int (l:Int)):=by rw [h];simp [Bc]
  rw [List.length_append,List.length_singleton] at hL;show forM (a.fa u) (gV 4) Qo (ls.length + 1) pre.length _ Γ=_;rw [ZCx (K.hfa u hu) hx];simp only [Fj,R.Dp,List.set,hb,Ef];exact hL
theorem ZJd {y:Nat} (K:SN N lk a x Γ) (o:x.Ok N) (ok:N.Ok) (hl:LkOf N lk) (hy:Γ[y]? =some (.lst (P.map moD))) (hP:P.length=N.n + 1) (hu:u < N.n):
  Nm [.ref a.o,.int (u:Int),.ref y] Γ=.ok (moD (N.bw (Aa x.R) P (lk u) (gP P u))) Γ:=by
 obtain ⟨w4,w5,w6,hL⟩:=ZCV K o ok hl hy hP (u:=u) (by lia) (s1:=some (.int (u:Int))) (lk u) [] (gP P u) none none none rfl
 have h1:=K.from
 have h2:=K.ixF (u:=u) (by lia);have h3:=K.itF (u:=u) (by lia);have h4:An (.ref y) (.int (u:Int)) Γ=.ok (moD (gP P u)) Γ:=Ip hy (Z0 (by lia));have h5:=K.hfa u (by lia);have h6:(Bc (lk u)).length=(lk u).length:=by simp [Bc]
 unfold Nm T5;rw [Ck];simp [h1,h2,h3,h4,h5,h6]
 rw [show (0:Nat)=([]:List Nat).length from rfl,hL]
 simp [Dr]
end
theorem Rw {p:Nat} (h:Γ[p]? =some (.lst (xs.map D.int))) (hi:i < xs.length):Gg (.ref p) (.int (i:Int)) (.int z) Γ=.ok .non (Γ.set p (.lst ((xs.set i z).map D.int))):=by rw [M4,h];dsimp only;rw [Mx (by simpa using hi)];dsimp only;rw [List.map_set]
theorem Sw {p:Nat} (h:Γ[p]? =some (.lst (xs.map D.int))) (hi:i < xs.length):ixL (.ref p) (.int (i:Int)) Γ=.ok (.int (Aa xs i)) Γ:=ZKA h (Jk hi)
section
variable {N:Lks} {lk:Nat->List Nat} {a:Ad} {x:LR} {Γ:DH}
theorem SN.ZAV (K:SN N lk a x Γ) (L:List Int):SN N lk a ⟨L,x.R⟩ (Γ.set a.l (.lst (L.map D.int))):=by
 have A:=K.ad;have hlt:a.l < Γ.length:=(List.getElem?_eq_some_iff.mp K.hl).1;refine ⟨A,?_,List.getElem?_set_self hlt,?_,λu hu=> ?_,?_,?_,?_⟩
 ·rw [List.getElem?_set_ne A.lo];exact K.ho
 ·rw [List.getElem?_set_ne A.lf];exact K.hf
 ·rw [List.getElem?_set_ne (A.la u hu)];exact K.hfa u hu
 ·rw [List.getElem?_set_ne A.le];exact K.he
 ·rw [List.getElem?_set_ne A.lw];exact K.hw
 ·rw [List.getElem?_set_ne A.lr];exact K.hr
theorem SN.Lj (K:SN N lk a x Γ) (R:List Int):SN N lk a ⟨x.L,R⟩ (Γ.set a.r (.lst (R.map D.int))):=by
 have A:=K.ad;have hlt:a.r < Γ.length:=(List.getElem?_eq_some_iff.mp K.hr).1;refine ⟨A,?_,?_,?_,λu hu=> ?_,?_,?_,List.getElem?_set_self hlt⟩
 ·rw [List.getElem?_set_ne A.ro];exact K.ho
 ·rw [List.getElem?_set_ne A.lr.symm];exact K.hl
 ·rw [List.getElem?_set_ne A.rf];exact K.hf
 ·rw [List.getElem?_set_ne (A.ra u hu)];exact K.hfa u hu
 ·rw [List.getElem?_set_ne A.re];exact K.he
 ·rw [List.getElem?_set_ne A.rw];exact K.hw
noncomputable def hs (Γ:DH) (a:Ad) (x:LR):DH:=(Γ.set a.l (.lst (x.L.map D.int))).set a.r (.lst (x.R.map D.int))
theorem SN.at (K:SN N lk a x Γ) (y:LR):SN N lk a y (hs Γ a y):=(K.ZAV y.L).Lj y.R
theorem ZJy:(hs Γ a y).length=Γ.length:=by unfold hs;simp
theorem ZDY (A:a.l≠a.r) (y z:LR):hs (hs Γ a y) a z=hs Γ a z:=by unfold hs;rw [List.set_comm _ _ A.symm,List.set_set,List.set_set]
theorem ZA6 {p:Nat} (h:Γ[p]? =some o):Γ.set p o=Γ:=by
 refine List.ext_getElem? λi=> ?_
 by_cases e:p=i
 ·subst e;rw [List.getElem?_set_self (List.getElem?_eq_some_iff.mp h).1,h]
 ·rw [List.getElem?_set_ne e]
theorem SN.hs (K:SN N lk a x Γ):hs Γ a x=Γ:=by unfold Law.hs;rw [ZA6 K.hl,ZA6 K.hr]
theorem ZKR (K:SN N lk a x Γ) (o:x.Ok N) (ok:N.Ok) (mt:N.Mt) (hl:l < N.q) :Np [.ref a.o,.int (N.fr l:Int),.int (l:Int),.int c] Γ=.ok .non (hs Γ a (x.sa N (N.fr l) l c)):=by
 have f1:=ok.fr l hl;have f2:=ok.to l hl;have f3:=mt.lt l hl;have o1:=o.ll;have o2:=o.rl;have K1:=K.ZAV (x.L.set (N.fr l) (Aa x.L (N.fr l) - c));have K2:=K1.ZAV (x.sa N (N.fr l) l c).L;have K3:=K2.Lj (x.R.set l (Aa x.R l - c));have p1:=Sw K.hl (i:=N.fr l) (by lia);have p2:=Rw K.hl (i:=N.fr l) (z:=Aa x.L (N.fr l) - c) (by lia);have p3:=Sw K1.hl (i:=N.to l) (by simp;lia);have p4:=Rw K1.hl (i:=N.to l) (z:=Aa (x.L.set (N.fr l) (Aa x.L (N.fr l) - c)) (N.to l) + c) (by simp;lia)
 have p5:=Sw (xs:=x.R) K2.hr (i:=l) (by lia);have p6:=Rw (xs:=x.R) K2.hr (i:=l) (z:=Aa x.R l - c) (by lia);have p7:=Sw K3.hr (i:=mate l) (by simp;lia);have p8:=Rw K3.hr (i:=mate l) (z:=Aa (x.R.set l (Aa x.R l - c)) (mate l) + c) (by simp;lia);have e1:=K.left;have e2:=K1.left;have e3:=K1.ends;have e4:=K1.ixE hl;have e5:=K2.rooms;have e6:=K3.rooms;have hm:(if (l:Int) % 2=0 then D.int ((l:Int) + 1) else D.int ((l:Int) - 1))=D.int ((mate l:Nat):Int):=by
  unfold mate;by_cases h:l % 2=0
  ·rw [if_pos (show (l:Int) % 2=0 by lia),if_pos h];exact congrArg D.int (by lia)
  ·rw [if_neg (show¬(l:Int) % 2=0 by lia),if_neg h];exact congrArg D.int (by lia)
 have fin:tidy Γ (.ok .non ((((Γ.set a.l (.lst ((x.L.set (N.fr l) (Aa x.L (N.fr l) - c)).map D.int))).set a.l (.lst ((x.sa N (N.fr l) l c).L.map D.int))).set a.r (.lst ((x.R.set l (Aa x.R l - c)).map D.int))).set a.r (.lst ((x.sa N (N.fr l) l c).R.map D.int))))=.ok .non (hs Γ a (x.sa N (N.fr l) l c)):=by rw [Vu (by simp) rfl];unfold hs;rw [List.set_set,List.set_set]
 have q4:Gg (.ref a.l) (.int (N.to l:Int)) (.int (Aa (x.L.set (N.fr l) (Aa x.L (N.fr l) - c)) (N.to l) + c)) (Γ.set a.l (.lst ((x.L.set (N.fr l) (Aa x.L (N.fr l) - c)).map D.int)))=.ok .non ((Γ.set a.l (.lst ((x.L.set (N.fr l) (Aa x.L (N.fr l) - c)).map D.int))).set a.l (.lst ((x.sa N (N.fr l) l c).L.map D.int))):=p4;have q8:Gg (.ref a.r) (.int (mate l:Int)) (.int (Aa (x.R.set l (Aa x.R l - c)) (mate l) + c)) (((Γ.set a.l (.lst ((x.L.set (N.fr l) (Aa x.L (N.fr l) - c)).map D.int))).set a.l (.lst ((x.sa N (N.fr l) l c).L.map D.int))).set a.r (.lst ((x.R.set l (Aa x.R l - c)).map D.int)))=.ok .non ((((Γ.set a.l (.lst ((x.L.set (N.fr l) (Aa x.L (N.fr l) - c)).map D.int))).set a.l (.lst ((x.sa N (N.fr l) l c).L.map D.int))).set a.r (.lst ((x.R.set l (Aa x.R l - c)).map D.int))).set a.r (.lst ((x.sa N (N.fr l) l c).R.map D.int))):=p8
 clear p4 p8 K K1 K2 K3;generalize hs Γ a (x.sa N (N.fr l) l c)=Γ9 at *;generalize Γ.set a.l (.lst ((x.L.set (N.fr l) (Aa x.L (N.fr l) - c)).map D.int))=Γ1 at *;generalize Γ1.set a.l (.lst ((x.sa N (N.fr l) l c).L.map D.int))=Γ2 at *;generalize Γ2.set a.r (.lst ((x.R.set l (Aa x.R l - c)).map D.int))=Γ3 at *;generalize Γ3.set a.r (.lst ((x.sa N (N.fr l) l c).R.map D.int))=Γ4 at *;generalize Aa (x.L.set (N.fr l) (Aa x.L (N.fr l) - c)) (N.to l)=i1 at *
 generalize Aa (x.R.set l (Aa x.R l - c)) (mate l)=i2 at *;unfold Np Wh;rw [Ck];simp [-M4,e1,e2,e3,e4,e5,e6,p1,p2,p3,q4,p5,p6,p7,q8,hm,fin]
end
theorem ZFG {ks:List Int} (h:1<=ks.length):∃us:List Nat,Er ks=us.map (λ(i:Nat)=>D.int (i:Int))/\us.Perm (List.range ks.length):=by
 unfold Er;by_cases h2:ks.length < 2
 ·rw [if_pos h2];refine ⟨List.range ks.length,?_,List.Perm.refl _⟩;unfold Bf;refine List.map_congr_left λi _=> ?_
  rw [Int.zero_add]
 ·rw [if_neg h2];have hp:(Hu (ltK ks.reverse) (PySem.W.kas_sort ks.length)).toList.Perm (List.range ks.length):=by have:=Array.perm_iff_toList_perm.mp (Xp (lt:=ltK ks.reverse) (Zm h)).2;simpa using this
  generalize hq:(Hu (ltK ks.reverse) (PySem.W.kas_sort ks.length)).toList=p at *;generalize ks.length=n at *;refine ⟨(p.map λi=>n - 1 - i).reverse,?_,?_⟩
  ·rw [List.map_reverse,List.map_map]
   congr 1
   refine List.map_congr_left λi hi=> ?_
   have hi':i < n:=List.mem_range.mp (hp.mem_iff.mp hi);have hl:(Bf 0 n).length=n:=by unfold Bf;simp
   rw [List.getD_eq_getElem?_getD,List.getElem?_reverse (by rw [hl];exact hi'),hl];unfold Bf;rw [List.getElem?_map,List.getElem?_range (by lia)];show D.int (0 + ((n - 1 - i:Nat):Int))=_;rw [Int.zero_add]
   rfl
  ·refine (List.reverse_perm _).trans ((hp.map _).trans ?_);have:(List.range n).map (λi=>n - 1 - i)=(List.range n).reverse:=by
    refine List.ext_getElem (by simp) λi h1 h2=> ?_
    simp
   rw [this];exact List.reverse_perm _
theorem ZKb {C m:Str} {tn:DA} {caps:List Nat} {te:DE} {G1 G2:DH} {j:Int} {ks:List Int} (h1:tn S G=.ok [.int j] G1) (h2:1<=j/\j < 64) (h3:DO.tab C m∈G1) (h4:Gm te caps S j.toNat 0 G1=.ok ks G2):We C m tn caps te S G=.ok (.ref G2.length) (G2++ [.lst (Er ks)]):=by unfold We;rw [h1,R.Jr];dsimp only;rw [if_pos ⟨h2,h3⟩,h4,R.Jr]
section
variable {N:Lks} {lk:Nat->List Nat} {a:Ad} {x:LR} {Γ:DH} {Wl:List Int}
theorem ZGW (K0:SN N lk a x Γ) (o:x.Ok N) (ok:N.Ok) (mt:N.Mt) (hW:Wl.length=N.n + 1) (hl:l < N.q) :Pz [some (.ref a.o),some (.fl (Wl.map D.int)),s2,some (.int (N.fr l:Int)),some (.int (l:Int))] Γ=.nx [some (.ref a.o),some (.fl (Wl.map D.int)),s2,some (.int (N.fr l:Int)),some (.int (l:Int))] (hs Γ a (x.one N (Aa Wl) (N.fr l) l)):=by
 have h1:=Q7 (xs:=Wl) (i:=N.fr l) (by have:=ok.fr l hl;lia);have h2:=Q7 (xs:=Wl) (i:=N.to l) (by have:=ok.to l hl;lia);have e1:=K0.ends;have e2:=K0.ixE hl;have e3:=K0.worths;have e4:=K0.ixW hl;unfold Pz LR.one;by_cases c:Aa Wl (N.fr l)=Aa Wl (N.to l) + N.wo l
 ·have e5:=K0.left;have e6:=K0.ixL o (ok.fr l hl);have e7:=K0.rooms;have e8:=K0.ixR o hl;have e9:=λ(t:DA) (S:DSt)=>K0.meth (m:="send_along") (F:=Np) (t:=t) (S:=S) λ_ _ _ _ _ _=>rfl
  have ea:=ZKR K0 o ok mt hl (c:=min (Aa x.L (N.fr l)) (Aa x.R l));rw [if_pos c];generalize Wl.map D.int=Z at *;generalize hs Γ a _=Γ9 at *;simp [h1,h2,e1,e2,e3,e4,e5,e6,e7,e8,e9,ea,c]
 ·rw [if_neg c,K0.hs];generalize Wl.map D.int=Z at *;simp [h1,h2,e1,e2,e3,e4,c]
variable {rm ga R0:Nat->Int} {B:LR->Prop}
theorem ZBS (K0:SN N lk a x Γ) (ok:N.Ok) (mt:N.Mt) (sc:N.Sc ga) (F:N.Fix rm (Aa Wl)) (hl:LkOf N lk) (hB:∀(y:LR) (l:Nat) (c:Int),y.Ok N->l < N.q->B y->B (y.sa N (N.fr l) l c)) (hW:Wl.length=N.n + 1) (hu:u < N.n) {s2:Option D}:∀(ls pre:List Nat) (y:LR) (z4:Option D),lk u=pre++ls->Kp N (Aa Wl) R0 B y->
  ∃y' w4,DL.forM (a.fa u) (gV 4) Pz ls.length pre.length [some (.ref a.o),some (.fl (Wl.map D.int)),s2,some (.int (u:Int)),z4] (hs Γ a y)=.nx [some (.ref a.o),some (.fl (Wl.map D.int)),s2,some (.int (u:Int)),w4] (hs Γ a y')/\Kp N (Aa Wl) R0 B y'/\Snt N (Aa Wl) (λl=>l∈ls) y y'
 | [],pre,y,z4,h,k=>⟨y,z4,ZBc ((K0.at y).hfa u (by lia)) (by rw [h];simp [Bc]),k,(Snt.refl y).imp λ_ h=>by cases h⟩
 | l::ls,pre,y,z4,h,k=>by
  have hm:=(hl u l).mp (by rw [h];simp);have hfu:=hm.2;obtain ⟨k1,s1⟩:=ZKU ok mt sc F hB k hm.1 (by lia);have hr:=ZGW (K0.at y) k.ok ok mt hW hm.1 (s2:=s2);rw [ZDY K0.ad.lr,hfu] at hr;rw [hfu] at k1 s1;obtain ⟨y',w4,hL,k2,s3⟩:=ZBS K0 ok mt sc F hl hB hW hu (s2:=s2) ls (pre++ [l]) (y.one N (Aa Wl) u l) (some (.int (l:Int))) (by rw [h];simp) k1;refine ⟨y',w4,?_,k2,(s1.trans s3).imp λj hj=>by simpa using hj⟩
  have hx:(Bc (lk u))[pre.length]? =some (.int (l:Int)):=by rw [h];simp [Bc]
  rw [List.length_append,List.length_singleton] at hL;show DL.forM (a.fa u) (gV 4) Pz (ls.length + 1) pre.length _ _=_;rw [ZCx ((K0.at y).hfa u (by lia)) hx];simp only [Fj,R.Dp,List.set,hr,Ef];exact hL
theorem ZBQ (K0:SN N lk a x Γ) (ok:N.Ok) (mt:N.Mt) (sc:N.Sc ga) (F:N.Fix rm (Aa Wl)) (hl:LkOf N lk) (hB:∀(y:LR) (l:Nat) (c:Int),y.Ok N->l < N.q->B y->B (y.sa N (N.fr l) l c)) (hW:Wl.length=N.n + 1) {s2:Option D}:∀(us:List Nat) (y:LR) (z3 z4:Option D),(∀u∈us,u < N.n)->Kp N (Aa Wl) R0 B y->
  ∃y' w3 w4,Bu (gV 3) Th (us.map λ(i:Nat)=>D.int (i:Int)) [some (.ref a.o),some (.fl (Wl.map D.int)),s2,z3,z4] (hs Γ a y)=.nx [some (.ref a.o),some (.fl (Wl.map D.int)),s2,w3,w4] (hs Γ a y')/\Kp N (Aa Wl) R0 B y'/\Snt N (Aa Wl) (λl=>l < N.q/\N.fr l∈us) y y'
 | [],y,z3,z4,h,k=>⟨y,z3,z4,rfl,k,(Snt.refl y).imp λ_ h=>by cases h.2⟩
 | u::us,y,z3,z4,h,k=>by
  have hu:=h u (by simp);obtain ⟨y1,w4,hL,k1,s1⟩:=ZBS K0 ok mt sc F hl hB hW hu (s2:=s2) (lk u) [] y z4 rfl k
  have e1:=(K0.at y).from
  have e2:=(K0.at y).ixF (u:=u) (by lia);have e3:=(K0.at y).itF (u:=u) (by lia);have e4:=(K0.at y).hfa u (by lia);have e5:(Bc (lk u)).length=(lk u).length:=by simp [Bc]
  have hb:Th [some (.ref a.o),some (.fl (Wl.map D.int)),s2,some (.int (u:Int)),z4] (hs Γ a y)=.nx [some (.ref a.o),some (.fl (Wl.map D.int)),s2,some (.int (u:Int)),w4] (hs Γ a y1):=by rw [<-hL];generalize hs Γ a y=Γ9 at *;generalize Wl.map D.int=Z at *;unfold Th;simp [e1,e2,e3,e4,e5]
  obtain ⟨y',v3,v4,hL',k2,s2'⟩:=ZBQ K0 ok mt sc F hl hB hW (s2:=s2) us y1 (some (.int (u:Int))) w4 (λv hv=>h v (by simp [hv])) k1;refine ⟨y',v3,v4,?_,k2,(s1.trans s2').imp λl hl'=> ?_⟩
  ·rw [List.map_cons,H8];simp only [Fj,R.Dp,List.set,hb,Ef];exact hL'
  ·rcases List.mem_cons.mp hl'.2 with e | e
   ·exact .inl ((hl u l).mpr ⟨hl'.1,e⟩)
   ·exact .inr ⟨hl'.1,e⟩
theorem ZDP (K:SN N lk a x Γ) (hW:Wl.length=N.n + 1) {s3 s4:Option D}:∀(k i:Nat),i + k<=N.n->Gm R6 [0,1] [some (.ref a.o),some (.fl (Wl.map D.int)),s2,s3,s4] k i Γ=.ok ((List.range' i k).map λj=> -Aa Wl j % ((N.n:Int) + 1)) Γ
 | 0,i,_=>rfl
 | k + 1,i,h=>by
  have h1:=Q7 (xs:=Wl) (i:=i) (by lia);have h2:=ZHm (w:=Aa Wl i) K;have h3:=λ(t:DA) (S:DSt)=>K.meth (m:="links_of") (F:=Ni) (t:=t) (S:=S) λ_ _ _ _ _ _=>rfl
  have hb:R6 (Ht [0,1] (.int (i:Int)) [some (.ref a.o),some (.fl (Wl.map D.int)),s2,s3,s4]) Γ=.ok (.int (-Aa Wl i % ((N.n:Int) + 1))) Γ:=by generalize Wl.map D.int=Z at *;unfold R6 Ht;simp [h1,h2,h3]
  unfold Gm;rw [hb];simp only [R.Jr];rw [ZDP K hW k (i + 1) (by lia)];rw [R.Jr,List.range'_succ,List.map_cons]
theorem ZJY (K:SN N lk a x Γ) (hT:DO.tab "Sending" "send_by"∈Γ) (n1:1<=N.n) (n60:N.n<=60) (ok:N.Ok) (mt:N.Mt) (sc:N.Sc ga) (F:N.Fix rm (Aa Wl)) (hl:LkOf N lk) (hB:∀(y:LR) (l:Nat) (c:Int),y.Ok N->l < N.q->B y->B (y.sa N (N.fr l) l c)) (hW:Wl.length=N.n + 1) (k:Kp N (Aa Wl) R0 B x):
  ∃y,Ol [.ref a.o,.fl (Wl.map D.int)] Γ=.ok .non (hs Γ a y)/\Kp N (Aa Wl) R0 B y/\Snt N (Aa Wl) (λl=>l < N.q/\N.fr l < N.n) x y:=by
 have hk:=ZDP K hW (s2:=none) (s3:=none) (s4:=none) N.n 0 (by lia);generalize hks:((List.range' 0 N.n).map λj=> -Aa Wl j % ((N.n:Int) + 1))=ks at *;have hkl:ks.length=N.n:=by rw [<-hks];simp
 obtain ⟨us,hu,hp⟩:=ZFG (ks:=ks) (by lia);rw [hkl] at hp;obtain ⟨y,w3,w4,hL,k1,s1⟩:=ZBQ K ok mt sc F hl hB hW (s2:=some (.fl (Er ks))) us x none none (λu h=>List.mem_range.mp (hp.mem_iff.mp h)) k;rw [K.hs,<-hu] at hL;refine ⟨y,?_,k1,s1.imp λl h=>⟨h.1,hp.mem_iff.mpr (List.mem_range.mpr h.2)⟩⟩;have fz:freeze Γ (.ok (.ref Γ.length) (Γ++ [.lst (Er ks)]))=.ok (.fl (Er ks)) Γ:=Cg (by rw [hu];exact Kc λ_ _=>rfl)
 have td:tidy Γ (.ok .non (hs Γ a y))=.ok .non (hs Γ a y):=Vu ZJy rfl;have hn:(Wl.map D.int).length=N.n + 1:=by simp [hW]
 have c1:(1:Int)<=(N.n:Int):=by lia
 have c2:(N.n:Int) < 64:=by lia
 have hj:((N.n:Int)).toNat=N.n:=by lia
 have hS:=ZKb (C:="Sending") (m:="send_by") (tn:=Ac (dOp Dg (dFn Dl (Ac (dV 1) Ai)) (dC (.int 1))) Ai) (S:= [some (.ref a.o),some (.fl (Wl.map D.int)),none,none,none]) (G:=Γ) (j:=(N.n:Int)) (by simp [hn]) ⟨c1,c2⟩ hT (by rw [hj];exact hk);generalize Wl.map D.int=Z at *;generalize hs Γ a y=Γ9 at *;generalize Er ks=Y at *;unfold Ol W4;rw [Ck];simp [hS,fz,hL,td]
end
section
variable {N:Lks} {lk:Nat->List Nat} {a:Ad} {x:LR} {Γ:DH}
theorem SN.app (K:SN N lk a x Γ) (T:DH):SN N lk a x (Γ++T):=by
 have g:∀{p:Nat} {o:DO},Γ[p]? =some o->(Γ++T)[p]? =some o:=λ{p o} h=>by rw [List.getElem?_append_left (List.getElem?_eq_some_iff.mp h).1];exact h
 exact ⟨K.ad,g K.ho,g K.hl,g K.hf,λu hu=>g (K.hfa u hu),g K.he,g K.hw,g K.hr⟩
theorem ZFH {p q:Option Int} :Iz (moD p) (moD q) G=.ok (.bl (!decide (p=q))) G:=by cases p <;> cases q <;> first | rfl | simp [moD]
theorem Qa:(Γ++ [o])[Γ.length]? =some o:=by simp
theorem ZHg {r:Option Int} (h:u < P.length):Gg (.ref Γ.length) (.int (u:Int)) (moD r) (Γ++ [.lst (P.map moD)])=.ok .non (Γ++ [.lst ((P.set u r).map moD)]):=by
 rw [M4,Qa];dsimp only;rw [Mx (by simpa using h)];dsimp only;rw [List.map_set,V6]
 rfl
theorem ZLT (K:SN N lk a x Γ) (o:x.Ok N) (ok:N.Ok) (hl:LkOf N lk) (hP:P.length=N.n + 1) (hu:u < N.n) {d:Bool} {z4:Option D}:∃w4,Pk [some (.ref a.o),some (.ref Γ.length),some (.bl d),some (.int (u:Int)),z4] (Γ++ [.lst (P.map moD)])=
  .nx [some (.ref a.o),some (.ref Γ.length),some (.bl (d && decide (N.bw (Aa x.R) P (lk u) (gP P u)=gP P u))),some (.int (u:Int)),w4] (Γ++ [.lst ((P.set u (N.bw (Aa x.R) P (lk u) (gP P u))).map moD)]):=by
 have K1:=K.app [.lst (P.map moD)];have h1:=ZJd K1 o ok hl (y:=Γ.length) Qa hP hu;have h2:=λ(t:DA) (S:DSt)=>K1.meth (m:="best_way") (F:=Nm) (t:=t) (S:=S) λ_ _ _ _ _ _=>rfl
 have h3:An (.ref Γ.length) (.int (u:Int)) (Γ++ [.lst (P.map moD)])=.ok (moD (gP P u)) (Γ++ [.lst (P.map moD)]):=Ip Qa (Z0 (by lia));have h4:=ZHg (Γ:=Γ) (P:=P) (u:=u) (r:=N.bw (Aa x.R) P (lk u) (gP P u)) (by lia);have h5:=ZFH (p:=N.bw (Aa x.R) P (lk u) (gP P u)) (q:=gP P u) (G:=Γ++ [.lst (P.map moD)]);by_cases c:N.bw (Aa x.R) P (lk u) (gP P u)=gP P u
 ·rw [set_same c (by lia),decide_eq_true c,Bool.and_true];rw [decide_eq_true c] at h5;generalize Γ++ [.lst (P.map moD)]=Γ1 at *;refine ⟨some (moD (N.bw (Aa x.R) P (lk u) (gP P u))),?_⟩;unfold Pk;simp [-Tn,h1,h2,h3,h5]
 ·rw [decide_eq_false c,Bool.and_false];rw [decide_eq_false c] at h5;generalize Γ++ [.lst (P.map moD)]=Γ1 at *;generalize Γ++ [.lst ((P.set u (N.bw (Aa x.R) P (lk u) (gP P u))).map moD)]=Γ2 at *;refine ⟨some (moD (N.bw (Aa x.R) P (lk u) (gP P u))),?_⟩;unfold Pk;simp [-M4,-Tn,h1,h2,h3,h4,h5]
theorem ZBE (K:SN N lk a x Γ) (o:x.Ok N) (ok:N.Ok) (hl:LkOf N lk):∀(k:Nat) (P:List (Option Int)) (d:Bool) (z3 z4:Option D),P.length=N.n + 1->k<=N.n->∃w3 w4,Bu (gV 3) Pk (Ih ((k:Int) - 1) k) [some (.ref a.o),some (.ref Γ.length),some (.bl d),z3,z4] (Γ++ [.lst (P.map moD)])=
  .nx [some (.ref a.o),some (.ref Γ.length),some (.bl (d && N.still (Aa x.R) lk k P)),w3,w4] (Γ++ [.lst ((N.dn (Aa x.R) lk k P).map moD)])
 | 0,P,d,z3,z4,hP,_=>⟨z3,z4,by simp [ZIM,Bu,Lks.still,Lks.dn]⟩
 | k + 1,P,d,z3,z4,hP,hk=>by
  obtain ⟨w4,h1⟩:=ZLT K o ok hl hP (u:=k) (by lia) (d:=d) (z4:=z4);obtain ⟨v3,v4,h2⟩:=ZBE K o ok hl k (P.set k (N.bw (Aa x.R) P (lk k) (gP P k))) (d && decide (N.bw (Aa x.R) P (lk k) (gP P k)=gP P k)) (some (.int (k:Int))) w4 (by simp [hP]) (by lia);refine ⟨v3,v4,?_⟩;have e:((k + 1:Nat):Int) - 1=(k:Int):=by lia
  rw [e,ZIV,H8];simp only [Fj,R.Dp,List.set,h1,Ef];rw [h2,Bool.and_assoc]
  rfl
variable {π:Nat->Int}
theorem ZAs (K:SN N lk a x Γ) (o:x.Ok N) (ok:N.Ok) (hl:LkOf N lk) (hn:N.n < 1000) (way:N.Way (Aa x.R)) (pot:N.Pot (Aa x.R) π) (hπ:∀u,u < N.n-> -(40000 * (N.n:Int))<=π u):∀(fu:Nat) (P:List (Option Int)) (z3 z4:Option D),WV N (Aa x.R) π P->Ag N.n (msP N π P) < fu->
  ∃P' w3 w4,sWh Mu Qu (fu + 1) [some (.ref a.o),some (.ref Γ.length),some (.bl false),z3,z4] (Γ++ [.lst (P.map moD)])=.nx [some (.ref a.o),some (.ref Γ.length),some (.bl true),w3,w4] (Γ++ [.lst (P'.map moD)])/\
   WV N (Aa x.R) π P'/\(∀v,v<=N.n->lowP N P' v)/\∀u,u < N.n->N.bw (Aa x.R) P' (lk u) (gP P' u)=gP P' u
 | 0,P,z3,z4,V,h=>by have:=ZIY V hπ;lia
 | fu + 1,P,z3,z4,V,h=>by
  obtain ⟨r1,r2,r3,r4⟩:=ZDN ok hl way pot N.n V (Nat.le_refl _) λv h1 h2=>⟨0,by rw [show v=N.n by lia];exact V.z,by lia⟩
  obtain ⟨w3,w4,hL⟩:=ZBE K o ok hl N.n P true z3 z4 V.len (Nat.le_refl _);rw [Bool.true_and] at hL;have hlen:((P.map moD).length:Int)=(N.n:Int) + 1:=by simp [V.len]
  have i1:inR ((N.n:Int) - 1):=⟨by lia,by lia⟩;have i2:inR (-1:Int):=⟨by lia,by lia⟩;have hd:((N.n:Int) - 1 - (-1)).toNat=N.n:=by lia
  have hlr:Dl [.ref Γ.length] (Γ++ [.lst (P.map moD)])=.ok (.int ((N.n:Int) + 1)) (Γ++ [.lst (P.map moD)]):=by rw [Tv,Qa];dsimp only;rw [hlen]
  have hr3:=ZCA (G:=Γ++ [.lst (P.map moD)]) i1 i2;rw [hd] at hr3;have hb:Qu [some (.ref a.o),some (.ref Γ.length),some (.bl false),z3,z4] (Γ++ [.lst (P.map moD)])=.nx [some (.ref a.o),some (.ref Γ.length),some (.bl (N.still (Aa x.R) lk N.n P)),w3,w4] (Γ++ [.lst ((N.dn (Aa x.R) lk N.n P).map moD)]):=by
   have e:(N.n:Int) + 1 - 2=(N.n:Int) - 1:=by lia
   generalize Γ++ [.lst (P.map moD)]=Γ1 at *;unfold Qu;simp [-Tv,-ZCA,hlr,e,hr3,hL]
  have ht:Mu [some (.ref a.o),some (.ref Γ.length),some (.bl false),z3,z4] (Γ++ [.lst (P.map moD)])=.ok true (Γ++ [.lst (P.map moD)]):=by unfold Mu;simp
  cases hst:N.still (Aa x.R) lk N.n P with
  | true=>
   obtain ⟨q1,q2⟩:=r3 hst;rw [q1] at r1 r2 hb;rw [hst] at hb;refine ⟨P,w3,w4,?_,r1,r2,q2⟩;have ht2:Mu [some (.ref a.o),some (.ref Γ.length),some (.bl true),w3,w4] (Γ++ [.lst (P.map moD)])=.ok false (Γ++ [.lst (P.map moD)]):=by unfold Mu;simp
   unfold sWh;rw [ht];simp only [R.Dp,if_true,hb,Ef];unfold sWh;rw [ht2];simp
  | false=>
   rw [hst] at hb r4;rw [if_neg (by decide)] at r4;obtain ⟨P',v3,v4,hL',k1,k2,k3⟩:=ZAs K o ok hl hn way pot hπ fu (N.dn (Aa x.R) lk N.n P) w3 w4 r1 (by lia);refine ⟨P',v3,v4,?_,k1,k2,k3⟩;unfold sWh;rw [ht];simp only [R.Dp,if_true,hb,Ef];exact hL'
noncomputable def topW (N:Lks) (π:Nat->Int):Prop:=∀u,u < N.n-> -(40000 * (N.n:Int))<=π u/\π u<=40000 * (N.n:Int)
theorem ZKT (t:topW N π) (V:WV N (Aa x.R) π P) (h0:∀u,u < N.n->gP P u=none) (hn:N.n<=60):Ag N.n (msP N π P) < 1000000000:=by
 have h:∀u,u < N.n->msP N π P u<=4800001:=λu hu=>by have:=(t u hu).2;unfold msP;rw [h0 u hu];dsimp only;lia
 have h1:∀k:Nat,Ag k (λ_=>(4800001:Int))=4800001 * k:=λk=>by
  induction k with
  | zero=>rfl
  | succ k ih=>
   show Ag k _ + 4800001=_;rw [ih];lia
 have:=Ea h;rw [h1] at this;lia
theorem ZCs (K:SN N lk a x Γ) (o:x.Ok N) (ok:N.Ok) (hl:LkOf N lk) (hn:N.n<=60) (way:N.Way (Aa x.R)) (pot:N.Pot (Aa x.R) π) (hz:π N.n=0) (t:topW N π):
  ∃Wl:List Int,Wl.length=N.n + 1/\Il [.ref a.o] Γ=.ok (.ref Γ.length) (Γ++ [.lst (Wl.map D.int)])/\N.Fix (Aa x.R) (Aa Wl)/\(∀u,u<=N.n->Aa Wl u<=π u):=by
 have gn:∀u,gP (List.replicate N.n (none:Option Int)++ [some 0]) u=if u=N.n then some 0 else none:=λu=>by
  unfold gP;rw [List.getD_eq_getElem?_getD];by_cases e:u=N.n
  ·rw [if_pos e,e];simp
  ·rw [if_neg e];by_cases h:u < N.n
   ·rw [List.getElem?_append_left (by simpa using h),List.getElem?_replicate,if_pos h];rfl
   ·rw [List.getElem?_eq_none (by simp;lia)];rfl
 have V0:WV N (Aa x.R) π (List.replicate N.n none++ [some 0]):=by
  refine ⟨by simp,by rw [gn,if_pos rfl],λu y h hu=> ?_,λu y hu h=> ?_⟩
  ·rw [gn] at h;split at h
   ·rename_i e;cases h;rw [e,hz];exact Int.le_refl _
   ·cases h
  ·rw [gn,if_neg (by lia)] at h;cases h
 have hs:=ZKT t V0 (λu hu=>by rw [gn,if_neg (by lia)]) hn;have hf:fuel=(fuel - 1) + 1:=by unfold fuel;lia
 obtain ⟨P,w3,w4,hL,V,lo,st⟩:=ZAs K o ok hl (by lia) way pot (λu hu=>(t u hu).1) (fuel - 1) _ none none V0 (by unfold fuel;lia);rw [<-hf] at hL;obtain ⟨F,le⟩:=ZJl ok hl V lo st;have val:∀u,u<=N.n->gP P u=some (dP P u):=λu hu=>by
  obtain ⟨y,h,_⟩:=lo u hu;unfold dP;rw [h]
  rfl
 have hl1:((List.range (N.n + 1)).map (dP P)).length=N.n + 1:=by simp
 have hW:∀u,u<=N.n->Aa ((List.range (N.n + 1)).map (dP P)) u=dP P u:=λu hu=>by rw [Gh (by rw [hl1];lia)];simp
 have hP:P.map moD=((List.range (N.n + 1)).map (dP P)).map D.int:=by
  refine List.ext_getElem (by simp [V.len]) λi h1 h2=> ?_
  have hi:i < P.length:=by simpa using h1
  have hv:=val i (by have:=V.len;lia);unfold gP at hv;rw [List.getD_eq_getElem?_getD,List.getElem?_eq_getElem hi] at hv;have hv':P[i]=some (dP P i):=hv;simp [hv',moD]
 refine ⟨(List.range (N.n + 1)).map (dP P),hl1,?_,?_,λu hu=>by rw [hW u hu];exact le u hu⟩
 ·rw [<-hP];have td:tidy Γ (.ok (.ref Γ.length) (Γ++ [.lst (P.map moD)]))=.ok (.ref Γ.length) (Γ++ [.lst (P.map moD)]):=Hz (Kc λ_ _=>ZK8);have e1:=K.left;have e2:Em (.ref a.l) Γ=.ok (.mt a.l) Γ:=by simp [Em,K.hl]
  have hcs:∀S:DSt,Bh 1 [] S= [none]:=λ_=>rfl
  have hc:Dy a.l (gV 0) Cd ZBO [none] (x.L.map D.int).length 0 Γ=.ok (List.replicate (N.n + 1) .non) Γ:=by
   rw [ZCP (F:=λ_=>some .non) K.hl λy _=>⟨[some y],rfl,.inr ⟨rfl,.non,rfl,rfl⟩⟩,List.filterMap_eq_map'];have e:(x.L.map D.int).map (λ_=>D.non)=List.replicate (N.n + 1) D.non:=by rw [List.map_const'];simp [o.ll]
   rw [e]
  have hmk:(List.replicate (N.n + 1) D.non).length<=1000000:=by simp;lia
  have hst:Gg (.ref Γ.length) (.int (-1)) (.int 0) (Γ++ [.lst (List.replicate (N.n + 1) .non)])=.ok .non (Γ++ [.lst ((List.replicate N.n (none:Option Int)++ [some 0]).map moD)]):=by
   rw [M4,Qa];dsimp only;rw [show ixN (List.replicate (N.n + 1) D.non).length (-1)=some N.n by simp [ixN];lia];dsimp only;rw [V6]
   congr 2
   rw [List.replicate_succ',List.set_append_right _ _ (by simp)];simp [moD]
  have hGl:=K.hl;generalize x.L.map D.int=Y at *;generalize (List.replicate N.n (none:Option Int)++ [some 0]).map moD=Y0 at *;generalize List.replicate (N.n + 1) D.non=Y1 at *;unfold Il Pr;rw [Ck];simp [-M4,e1,e2,hcs,hGl,hc,hmk,hst,hL,td]
 ·refine ⟨by rw [hW _ (Nat.le_refl _)];exact F.z,λl h1 h2 h3=> ?_,λu hu=> ?_,λu hu=>by rw [hW u (by lia)];exact F.lo u hu⟩
  ·rw [hW _ (ok.to l h1),hW _ (by lia)];exact F.fix l h1 h2 h3
  ·obtain ⟨l,q1,q2,q3,q4⟩:=F.att u hu;exact ⟨l,q1,q2,q3,by rw [hW u (by lia),hW _ (ok.to l q1)];exact q4⟩
end
noncomputable def adr (g n:Nat):Ad:=⟨g,g + 1,g + n + 3,g + n + 4,g + n + 5,g + n + 6,λu=>g + 2 + u⟩
theorem ZCJ {g:Nat}:(adr g n).Ok n:=by constructor <;> (try intro u hu) <;> (simp only [adr];lia)
noncomputable def Lks.cut (N:Lks) (k:Nat):Lks:=⟨N.n,k,N.fr,N.to,N.wo⟩
noncomputable def lkC (N:Lks) (k u:Nat):List Nat:=(List.range k).filter λl=>N.fr l=u
theorem ZJ2 {N:Lks}:LkOf N (lkC N N.q):=λu l=>by unfold lkC;simp
theorem Sq {p:Nat} {xs:List D} (h:Γ[p]? =some (.lst xs)) (hl:xs.length < 1000000):Fp (.ref p) [d] Γ=.ok .non (Γ.set p (.lst (xs++ [d]))):=by rw [ZA3,h];exact if_pos hl
theorem get_set {p:Nat} {o':DO} (hne:p≠i) (h:Γ[i]? =some o):(Γ.set p o')[i]? =some o:=by rw [List.getElem?_set_ne hne];exact h
theorem V9 {p:Nat} {o':DO} (h:Γ[p]? =some o):(Γ.set p o')[p]? =some o':=List.getElem?_set_self (List.getElem?_eq_some_iff.mp h).1
section
variable {N:Lks} {k g:Nat} {x:LR} {Γ:DH}
theorem ZAp (K:SN (N.cut k) (lkC N k) (adr g N.n) x Γ) (hk:k < 1000) (hR:x.R.length=k) (hf:N.fr k<=N.n) {ga room:Int} (hw:N.wo k=ga * ((N.n:Int) + 1) - 1) (hg: -1000<=ga/\ga<=1000):
  ∃Γ',Hk [.ref g,.int (N.fr k:Int),.int (N.to k:Int),.int ga,.int room] Γ=.ok .non Γ'/\SN (N.cut (k + 1)) (lkC N (k + 1)) (adr g N.n) ⟨x.L,x.R++ [room]⟩ Γ'/\Γ'.length=Γ.length/\∀i,i < g->Γ'[i]? =Γ[i]? :=by
 have o0:Γ[g]? =some (.ins "Sending" (flds N.n (g + 1) (g + N.n + 3) (g + N.n + 4) (g + N.n + 5) (g + N.n + 6))):=K.ho;have l0:Γ[g + 1]? =some (.lst (x.L.map D.int)):=K.hl;have f0:Γ[g + N.n + 3]? =some (.lst ((List.range (N.n + 1)).map λu=>D.ref (g + 2 + u))):=K.hf;have a0:∀u,u<=N.n->Γ[g + 2 + u]? =some (.lst (Bc (lkC N k u))):=K.hfa;have e0:Γ[g + N.n + 4]? =some (.lst (Bc ((List.range k).map N.to))):=K.he
 have w0:Γ[g + N.n + 5]? =some (.lst (((List.range k).map N.wo).map D.int)):=K.hw;have r0:Γ[g + N.n + 6]? =some (.lst (x.R.map D.int)):=K.hr;have len1:(Bc (lkC N k (N.fr k))).length < 1000000:=by unfold Bc lkC;rw [List.length_map];have:=List.length_filter_le (λl=>decide (N.fr l=N.fr k)) (List.range k);rw [List.length_range] at this;lia
 have len2:(Bc ((List.range k).map N.to)).length=k:=by simp [Bc]
 have len3:(((List.range k).map N.wo).map D.int).length=k:=by simp
 have len4:(x.R.map D.int).length=k:=by simp [hR]
 generalize hA:Bc (lkC N k (N.fr k))=XA at *;generalize hE:Bc ((List.range k).map N.to)=XE at *;generalize hW:((List.range k).map N.wo).map D.int=XW at *;generalize hX:x.R.map D.int=XR at *;have af:Γ[g + 2 + N.fr k]? =some (.lst XA):=by rw [a0 _ hf,hA]
 let Γ1:=Γ.set (g + 2 + N.fr k) (.lst (XA++ [.int (k:Int)]));let Γ2:=Γ1.set (g + N.n + 4) (.lst (XE++ [.int (N.to k:Int)]));let Γ3:=Γ2.set (g + N.n + 5) (.lst (XW++ [.int (N.wo k)]));let Γ4:=Γ3.set (g + N.n + 6) (.lst (XR++ [.int room]));have o1:Γ1[g]? =_:=get_set (by lia) o0;have o2:Γ2[g]? =_:=get_set (by lia) o1;have o3:Γ3[g]? =_:=get_set (by lia) o2;have e1:Γ1[g + N.n + 4]? =_:=get_set (by lia) e0
 have w1:Γ1[g + N.n + 5]? =_:=get_set (by lia) w0;have w2:Γ2[g + N.n + 5]? =_:=get_set (by lia) w1;have r1:Γ1[g + N.n + 6]? =_:=get_set (by lia) r0;have r2:Γ2[g + N.n + 6]? =_:=get_set (by lia) r1;have r3:Γ3[g + N.n + 6]? =_:=get_set (by lia) r2;refine ⟨Γ4,?_,?_,by simp [Γ4,Γ3,Γ2,Γ1],λi hi=> ?_⟩
 ·have p1:Fp (.ref (g + 2 + N.fr k)) [.int (k:Int)] Γ=.ok .non Γ1:=Sq af len1;have p2:Fp (.ref (g + N.n + 4)) [.int (N.to k:Int)] Γ1=.ok .non Γ2:=Sq e1 (by lia);have p3:Fp (.ref (g + N.n + 5)) [.int (N.wo k)] Γ2=.ok .non Γ3:=Sq w2 (by lia);have p4:Fp (.ref (g + N.n + 6)) [.int room] Γ3=.ok .non Γ4:=Sq r3 (by lia);have q1:Ep "Sending" "links_from" (.ref g) Γ=.ok (.ref (g + N.n + 3)) Γ:=Ge o0 rfl
  have q2:Ep "Sending" "ends" (.ref g) Γ=.ok (.ref (g + N.n + 4)) Γ:=Ge o0 rfl;have q3:Ep "Sending" "ends" (.ref g) Γ1=.ok (.ref (g + N.n + 4)) Γ1:=Ge o1 rfl;have q4:Ep "Sending" "worths" (.ref g) Γ2=.ok (.ref (g + N.n + 5)) Γ2:=Ge o2 rfl;have q5:Ep "Sending" "scale" (.ref g) Γ2=.ok (.int ((N.n:Int) + 1)) Γ2:=Ge o2 rfl;have q6:Ep "Sending" "rooms" (.ref g) Γ3=.ok (.ref (g + N.n + 6)) Γ3:=Ge o3 rfl
  have q7:An (.ref (g + N.n + 3)) (.int (N.fr k:Int)) Γ=.ok (.ref (g + 2 + N.fr k)) Γ:=Ip f0 (Fe (k:=N.fr k) (by lia) (by rw [List.getElem?_map,List.getElem?_range (by lia)];rfl));have q8:Dl [.ref (g + N.n + 4)] Γ=.ok (.int (k:Int)) Γ:=by rw [Tv,e0];dsimp only;rw [len2]
  have q9:Bo (.int ga) (.int ((N.n:Int) + 1)) Γ2=.ok (.int (ga * ((N.n:Int) + 1))) Γ2:=Kf (by lia) (by lia);have td:tidy Γ (.ok .non Γ4)=.ok .non Γ4:=Vu (by simp [Γ4,Γ3,Γ2,Γ1]) rfl;have hw':ga * ((N.n:Int) + 1) - 1=N.wo k:=hw.symm
  clear_value Γ4 Γ3 Γ2 Γ1
  unfold Hk Om;rw [Ck];simp [-ZA3,-Tv,-Tn,af,e1,w2,r3,p1,p2,p3,p4,q1,q2,q3,q4,q5,q6,q7,q8,q9,td,hw',Dr]
 ·have s1:(List.range (k + 1)).map N.to=(List.range k).map N.to++ [N.to k]:=by rw [List.range_succ,List.map_append];rfl
  have s2:(List.range (k + 1)).map N.wo=(List.range k).map N.wo++ [N.wo k]:=by rw [List.range_succ,List.map_append];rfl
  refine ⟨ZCJ,get_set (by simp only [adr];lia) o3,get_set (by simp only [adr];lia) (get_set (by simp only [adr];lia) (get_set (by simp only [adr];lia) (get_set (by simp only [adr];lia) l0))),get_set (by simp only [adr];lia) (get_set (by simp only [adr];lia) (get_set (by simp only [adr];lia) (get_set (by simp only [adr];lia) f0))),λu hu=> ?_,?_,?_,?_⟩
  ·have hu':u<=N.n:=hu;refine get_set (by simp only [adr];lia) (get_set (by simp only [adr];lia) (get_set (by simp only [adr];lia) ?_));have s3:lkC N (k + 1) u=lkC N k u++if N.fr k=u then [k] else []:=by
    unfold lkC;rw [List.range_succ,List.filter_append]
    congr 1
    by_cases e:N.fr k=u <;> simp [e]
   show Γ1[g + 2 + u]? =_;rw [s3];by_cases e:N.fr k=u
   ·subst e;rw [if_pos rfl];refine (V9 af).trans ?_;rw [<-hA];simp [Bc]
   ·rw [if_neg e,List.append_nil];exact get_set (by lia) (a0 u hu')
  ·refine get_set (by simp only [adr];lia) (get_set (by simp only [adr];lia) ((V9 e1).trans ?_));show some (DO.lst (XE++_))=some (DO.lst (Bc ((List.range (k + 1)).map N.to)));rw [s1,<-hE];simp [Bc]
  ·refine get_set (by simp only [adr];lia) ((V9 w2).trans ?_);show some (DO.lst (XW++_))=some (DO.lst (((List.range (k + 1)).map N.wo).map D.int));rw [s2,<-hW];simp
  ·refine (V9 r3).trans ?_;show some (DO.lst (XR++_))=some (DO.lst ((x.R++ [room]).map D.int));rw [<-hX];simp
 ·have n1:(Γ.set (g + 2 + N.fr k) (.lst (XA++ [.int (k:Int)])))[i]? =Γ[i]? :=List.getElem?_set_ne (by lia);show Γ4[i]? =_;rw [<-n1,<-List.getElem?_set_ne (l:=Γ1) (a:=.lst (XE++ [.int (N.to k:Int)])) (i:=g + N.n + 4) (j:=i) (by lia)];rw [<-List.getElem?_set_ne (l:=Γ2) (a:=.lst (XW++ [.int (N.wo k)])) (i:=g + N.n + 5) (j:=i) (by lia)];exact List.getElem?_set_ne (by lia)
end
noncomputable def Du (wide:Int) (as:List Arc):List Int:=as.flatMap λa=> [Gq wide a,0]
theorem Rn:∀as:List Arc,(Du wide as).length=2 * as.length
 | []=>rfl
 | a::as=>by show (Gq wide a::0::Du wide as).length=_;rw [List.length_cons,List.length_cons,Rn as,List.length_cons];lia
theorem Q9:∀(as:List Arc) (i:Nat),i < as.length->Aa (Du wide as) (2 * i)=Gq wide (Af as i)/\Aa (Du wide as) (2 * i + 1)=0
 | a::as,0,_=>⟨rfl,rfl⟩
 | a::as,i + 1,h=>Q9 as i (by simpa using h)
section
variable {n g:Nat} {as:List Arc} {L:List Int} {wide:Int}
theorem ZE7 {pre rest:List Arc} {a:Arc}:Af (pre++a::rest) pre.length=a:=by unfold Af;rw [List.getD_eq_getElem?_getD];simp
theorem ZAr (hok:∀x∈as,ArcOk n x) (hm:as.length<=400) {s1 s2 s3:Option D}:∀(rest pre:List Arc) (Γ:DH) (z:Option D),as=pre++rest->SN ((lkN n as).cut (2 * pre.length)) (lkC (lkN n as) (2 * pre.length)) (adr g n) ⟨L,Du wide pre⟩ Γ->
  ∃Γ' w,Bu (gV 5) O4 (rest.map encA) [some (.ref g),s1,s2,s3,some (.int wide),z] Γ=.nx [some (.ref g),s1,s2,s3,some (.int wide),w] Γ'/\SN ((lkN n as).cut (2 * as.length)) (lkC (lkN n as) (2 * as.length)) (adr g n) ⟨L,Du wide as⟩ Γ'/\Γ'.length=Γ.length/\∀i,i < g->Γ'[i]? =Γ[i]?
 | [],pre,Γ,z,h,K=>by rw [List.append_nil] at h;subst h;exact ⟨Γ,z,rfl,K,rfl,λ_ _=>rfl⟩
 | a::rest,pre,Γ,z,h,K=>by
  have ha:Af as pre.length=a:=by rw [h];exact ZE7
  have hlen:pre.length < as.length:=by rw [h];simp
  have hA:=ArcOk.of hok hlen;rw [ha] at hA;have v1:(lkN n as).fr (2 * pre.length)=a.fr/\(lkN n as).to (2 * pre.length)=a.to/\gaN as (2 * pre.length)=a.ga:=by have:=O9 (n:=n) (as:=as) (l:=2 * pre.length) (by lia);rw [show 2 * pre.length / 2=pre.length by lia,ha] at this;exact this
  have v2:(lkN n as).fr (2 * pre.length + 1)=a.to/\(lkN n as).to (2 * pre.length + 1)=a.fr/\gaN as (2 * pre.length + 1)= -a.ga:=by have:=Vn (n:=n) (as:=as) (l:=2 * pre.length + 1) (by lia);rw [show (2 * pre.length + 1) / 2=pre.length by lia,ha] at this;exact this
  have h1:=hA.lt;have h2:=hA.up;have h3:=hA.le;have h4:=hA.ga;obtain ⟨Γ1,c1,K1,l1,p1⟩:=ZAp (N:=lkN n as) K (by lia) (Rn pre) (by rw [v1.1];show a.fr<=n;lia) (ga:=a.ga) (room:=Gq wide a) (by show gaN as _ * _ - 1=_;rw [v1.2.2];rfl) h4;obtain ⟨Γ2,c2,K2,l2,p2⟩:=ZAp (N:=lkN n as) K1 (by lia) (by simp [Rn]) (by rw [v2.1];exact h3) (ga:= -a.ga) (room:=0) (by show gaN as _ * _ - 1=_;rw [v2.2.2];rfl) (by lia)
  rw [v1.1,v1.2.1] at c1;rw [v2.1,v2.2.1] at c2;have e1:2 * pre.length + 1 + 1=2 * (pre++ [a]).length:=by simp;lia
  have e2:Du wide pre++ [Gq wide a]++ [0]=Du wide (pre++ [a]):=by unfold Du;rw [List.flatMap_append];simp
  rw [e1] at K2;have K2':SN ((lkN n as).cut (2 * (pre++ [a]).length)) (lkC (lkN n as) (2 * (pre++ [a]).length)) (adr g n) ⟨L,Du wide (pre++ [a])⟩ Γ2:=by rw [<-e2];exact K2
  obtain ⟨Γ',w,hL,K',l3,p3⟩:=ZAr hok hm (s1:=s1) (s2:=s2) (s3:=s3) rest (pre++ [a]) Γ2 (some (encA a)) (by rw [h];simp) K2';refine ⟨Γ',w,?_,K',by rw [l3,l2,l1],λi hi=>by rw [p3 i hi,p2 i hi,p1 i hi]⟩;have m0:∀(t:DA) (S:DSt),Ib "Sending" "add_link" Hk t S (.ref g) Γ=(t S Γ).bind λds G2=>Hk (.ref g::ds) G2:=λt S=>K.meth λ_ _ _ _ _ _=>rfl
  have m1:∀(t:DA) (S:DSt),Ib "Sending" "add_link" Hk t S (.ref g) Γ1=(t S Γ1).bind λds G2=>Hk (.ref g::ds) G2:=λt S=>K1.meth λ_ _ _ _ _ _=>rfl
  have hb:O4 [some (.ref g),s1,s2,s3,some (.int wide),some (encA a)] Γ=.nx [some (.ref g),s1,s2,s3,some (.int wide),some (encA a)] Γ2:=by
   unfold O4 encA;cases hmo:a.mo with
   | none=>
    have c1':Hk [.ref g,.int (a.fr:Int),.int (a.to:Int),.int a.ga,.int wide] Γ=.ok .non Γ1:=by unfold Gq at c1;rw [hmo] at c1;exact c1
    simp [m0,m1,c1',c2,moD,Ew]
   | some b=>
    have c1':Hk [.ref g,.int (a.fr:Int),.int (a.to:Int),.int a.ga,.int b] Γ=.ok .non Γ1:=by unfold Gq at c1;rw [hmo] at c1;exact c1
    simp [m0,m1,c1',c2,moD,Ew]
  rw [List.map_cons,H8];simp only [Fj,R.Dp,List.set,hb,Ef];exact hL
theorem ZC8 {p:Nat} {Y:List D}:∀(k j:Nat) (Γ:DH),Γ[p]? =some (.lst Y)->j + k=Y.length->Dy p (gV 0) Cd Mi [none] k j Γ=.ok ((List.range k).map λi=>D.ref (Γ.length + i)) (Γ++List.replicate k (.lst []))
 | 0,j,Γ,h,hj=>by unfold Dy;rw [h];dsimp only;rw [if_pos (by lia)];simp
 | k + 1,j,Γ,h,hj=>by
  have hy:Y[j]? =some Y[j]:=List.getElem?_eq_getElem (by lia);have td:tidy Γ (.ok (.ref Γ.length) (Γ++ [.lst []]))=.ok (.ref Γ.length) (Γ++ [.lst []]):=Hz rfl;have he:Mi [some Y[j]] Γ=.ok (.ref Γ.length) (Γ++ [.lst []]):=by unfold Mi;simp [td]
  have ih:=ZC8 k (j + 1) (Γ++ [.lst []]) (by rw [List.getElem?_append_left (List.getElem?_eq_some_iff.mp h).1];exact h) (by lia);unfold Dy;rw [h];dsimp only;rw [hy];dsimp only;simp only [Fj,R.Jr,List.set,Cd,if_true,he];rw [ih];simp only [R.Jr]
  congr 1
  ·rw [List.range_succ_eq_map,List.map_cons,List.map_map]
   congr 1
   refine List.map_congr_left λi _=> ?_
   simp;lia
  ·simp [List.replicate_succ]
end
theorem fset {T:DH} {fs:List (Str×D)} {f:Str} (h:fs.length < 1000):Lj "Sending" f (.ref G.length) d S (G++ .ins "Sending" fs::T)=.nx S (G++ .ins "Sending" (Hr f d fs)::T):=by
 rw [ZKL (fs:=fs) (by simp) h,V6]
 rfl
theorem Qv {T H':DH} {fs:List (Str×D)} {f:Str} {tv:DE} (hv:tv S H=.ok d H') (hS:S[0]? =some (some (.ref G.length))) (hH:H'=G++ .ins "Sending" fs::T) (h:fs.length < 1000):Eh "Sending" (dV 0) tv f S H=.nx S (G++ .ins "Sending" (Hr f d fs)::T):=by
 have hd:dV 0 S H'=.ok (.ref G.length) H':=by simp [hS]
 rw [ZGe,hv,R.Dp,hd,R.Dp,hH];exact fset h
theorem ZKS (hS:S[3]? =some (some (.fl (s.map D.int)))) (hl:s.length < 1000):Cr (dOp Ay (Ba (dFn J9 (Ac (dV 3) Ai))) (Ba (dFn Ar (Ac (dC (.int 0)) Ai)))) S H=.ok (.ref H.length) (H++ [.lst ((s++ [0]).map D.int)]):=by
 have f1:freeze H (.ok (.ref H.length) (H++ [.lst (s.map D.int)]))=.ok (.fl (s.map D.int)) H:=Cg Ci;have f2:freeze H (.ok (.ref H.length) (H++ [.lst [.int 0]]))=.ok (.fl [.int 0]) H:=Cg rfl;have e:(s++ [0]).map D.int=s.map D.int++ [.int 0]:=by simp
 have td:tidy H (.ok (.ref H.length) (H++ [.lst (s.map D.int++ [.int 0])]))=.ok (.ref H.length) (H++ [.lst (s.map D.int++ [.int 0])]):=Hz (by rw [<-e];exact Ci);have hle:(s.map D.int).length + 1<=1000000:=by simp;lia
 rw [e];clear e;generalize s.map D.int=Z at *;simp [hS,f1,f2,Ar,hle,td]
theorem ZED:Cr (dFn Ar Ai) S H=.ok (.ref H.length) (H++ [.lst []]):=by have td:tidy H (.ok (.ref H.length) (H++ [.lst []]))=.ok (.ref H.length) (H++ [.lst []]):=Hz rfl;simp [Ar,td]
section
variable {n:Nat} {as:List Arc} {s:List Int}
theorem ZHz (ok:NetOk n as s) (G:DH):∃Γ,Rt [.ref G.length,.int n,.fl (as.map encA),.fl (s.map D.int)] (G++ [.ins "Sending" []])=.ok .non Γ/\SN (lkN n as) (lkC (lkN n as) (lkN n as).q) (adr G.length n) ⟨s++ [0],Du (s.sum + 1) as⟩ Γ/\Γ.take G.length=G/\G.length < Γ.length:=by
 have n30:=ok.n2;have m40:=ok.len;have hsl:=ok.sl;let R:=(List.range (n + 1)).map λi=>D.ref (G.length + 2 + i)
 let H2:DH:=G++ [.ins "Sending" [("scale",.int ((n:Int) + 1)),("left",.ref (G.length + 1))],.lst ((s++ [0]).map D.int)];let H3:DH:=G++ .ins "Sending" [("scale",.int ((n:Int) + 1)),("left",.ref (G.length + 1)),("links_from",.ref (G.length + n + 3))]:: .lst ((s++ [0]).map D.int)::(List.replicate (n + 1) (.lst [])++ [.lst R]);let H6:DH:=G++ .ins "Sending" (flds n (G.length + 1) (G.length + n + 3) (G.length + n + 4) (G.length + n + 5) (G.length + n + 6)):: .lst ((s++ [0]).map D.int)::(List.replicate (n + 1) (.lst [])++ [.lst R,.lst [],.lst [],.lst []])
 have K6:SN ((lkN n as).cut (2 * ([]:List Arc).length)) (lkC (lkN n as) (2 * ([]:List Arc).length)) (adr G.length n) ⟨s++ [0],Du (s.sum + 1) []⟩ H6:=by
  have gt:∀(k:Nat) (o:DO),(DO.ins "Sending" (flds n (G.length + 1) (G.length + n + 3) (G.length + n + 4) (G.length + n + 5) (G.length + n + 6)):: .lst ((s++ [0]).map D.int)::(List.replicate (n + 1) (.lst [])++ [.lst R,.lst [],.lst [],.lst []]))[k]? =some o->H6[G.length + k]? =some o:=λk o h=>by rw [List.getElem?_append_right (by lia),Nat.add_sub_cancel_left];exact h
  have tl:∀(k:Nat) (o:DO),[DO.lst R,.lst [],.lst [],.lst []][k]? =some o->H6[G.length + (n + 3 + k)]? =some o:=λk o h=>by refine gt _ _ ?_;rw [show n + 3 + k=(n + 1 + k) + 1 + 1 by lia,List.getElem?_cons_succ,List.getElem?_cons_succ,List.getElem?_append_right (by simp)];simpa using h
  refine ⟨ZCJ,gt 0 _ rfl,gt 1 _ rfl,tl 0 _ rfl,λu hu=> ?_,tl 1 _ rfl,tl 2 _ rfl,tl 3 _ rfl⟩;have hu':u<=n:=hu;have:=gt (2 + u) (.lst []) (by rw [show 2 + u=u + 1 + 1 by lia,List.getElem?_cons_succ,List.getElem?_cons_succ,List.getElem?_append_left (by simp;lia),List.getElem?_replicate,if_pos (by lia)])
  rw [<-Nat.add_assoc] at this;exact this
 obtain ⟨Γ,w,hL,K,hlen,hpre⟩:=ZAr ok.arc (by lia) (s1:=some (.int n)) (s2:=some (.fl (as.map encA))) (s3:=some (.fl (s.map D.int))) as [] H6 none rfl K6;have hlt:G.length < Γ.length:=by rw [hlen];simp [H6]
 refine ⟨Γ,?_,K,?_,hlt⟩
 ·let S1:DSt:= [some (.ref G.length),some (.int n),some (.fl (as.map encA)),some (.fl (s.map D.int)),some (.int (s.sum + 1)),none];let H1:DH:=G++ [.ins "Sending" [("scale",.int ((n:Int) + 1))]];let H4:DH:=G++ .ins "Sending" [("scale",.int ((n:Int) + 1)),("left",.ref (G.length + 1)),("links_from",.ref (G.length + n + 3)),("ends",.ref (G.length + n + 4))]:: .lst ((s++ [0]).map D.int)::(List.replicate (n + 1) (.lst [])++ [.lst R,.lst []])
  let H5:DH:=G++ .ins "Sending" [("scale",.int ((n:Int) + 1)),("left",.ref (G.length + 1)),("links_from",.ref (G.length + n + 3)),("ends",.ref (G.length + n + 4)),("worths",.ref (G.length + n + 5))]:: .lst ((s++ [0]).map D.int)::(List.replicate (n + 1) (.lst [])++ [.lst R,.lst [],.lst []]);have t1:sAs (dOp Ay (dFn Gw (Ac (dV 3) Ai)) (dC (.int 1))) (gV 4) [some (.ref G.length),some (.int n),some (.fl (as.map encA)),some (.fl (s.map D.int)),none,none] (G++ [.ins "Sending" []])=.nx S1 (G++ [.ins "Sending" []]):=by
   show _=SR.nx [some (.ref G.length),some (.int n),some (.fl (as.map encA)),some (.fl (s.map D.int)),some (.int (s.sum + 1)),none] _;generalize as.map encA=Z;simp
  have t2:Eh "Sending" (dV 0) (dOp Ay (dV 1) (dC (.int 1))) "scale" S1 (G++ [.ins "Sending" []])=.nx S1 H1:=Qv (fs:= []) (T:= []) (d:=.int ((n:Int) + 1)) (by simp [S1]) rfl rfl (by simp);have t3:Eh "Sending" (dV 0) (Cr (dOp Ay (Ba (dFn J9 (Ac (dV 3) Ai))) (Ba (dFn Ar (Ac (dC (.int 0)) Ai))))) "left" S1 H1=.nx S1 H2:=by
   have e:(D.ref H1.length)=D.ref (G.length + 1):=by simp [H1]
   have:=Qv (f:="left") (ZKS (s:=s) (S:=S1) (H:=H1) rfl (by lia)) rfl (show H1++ [DO.lst ((s++ [0]).map D.int)]=G++ .ins "Sending" [("scale",.int ((n:Int) + 1))]:: [DO.lst ((s++ [0]).map D.int)] by simp [H1]) (by simp);rw [e] at this;exact this
  have h2l:H2.length=G.length + 2:=by simp [H2]
  have h2g:H2[G.length + 1]? =some (.lst ((s++ [0]).map D.int)):=by
   show (G++_)[G.length + 1]? =_;rw [List.getElem?_append_right (by lia),Nat.add_sub_cancel_left]
   rfl
  have hll:0 + (n + 1)=((s++ [0]).map D.int).length:=by simp [hsl]
  have hcr:=ZC8 (p:=G.length + 1) (n + 1) 0 H2 h2g hll;have cv:Eo (Eg (Bl "Sending" (dV 0) "left")) 1 [] (gV 0) Cd Mi S1 H2=.ok (.ref (G.length + n + 3)) (H2++List.replicate (n + 1) (.lst [])++ [.lst R]):=by
   have e1:Ep "Sending" "left" (.ref G.length) H2=.ok (.ref (G.length + 1)) H2:=Ge (fs:= [("scale",.int ((n:Int) + 1)),("left",.ref (G.length + 1))]) (by simp [H2]) rfl;have e2:Em (.ref (G.length + 1)) H2=.ok (.mt (G.length + 1)) H2:=by simp [Em,h2g]
   have hcs:∀S:DSt,Bh 1 [] S= [none]:=λ_=>rfl
   have e3:((List.range (n + 1)).map λi=>D.ref (H2.length + i))=R:=by
    refine List.map_congr_left λi _=> ?_
    rw [h2l]
   rw [e3] at hcr;have e4:R.length<=1000000:=by simp [R];lia
   have e5:(H2++List.replicate (n + 1) (DO.lst [])).length=G.length + n + 3:=by simp [h2l];lia
   have e6:S1[0]? =some (some (.ref G.length)):=rfl;have e7:((s++ [0]).map D.int).length=n + 1:=by lia
   clear_value R H2 S1
   generalize (s++ [0]).map D.int=Z at *;generalize H2++List.replicate (n + 1) (DO.lst [])=H2' at *;simp [e1,e2,e6,e7,hcs,h2g,hcr,Ar,e4,e5]
  have t4:Eh "Sending" (dV 0) (Eo (Eg (Bl "Sending" (dV 0) "left")) 1 [] (gV 0) Cd Mi) "links_from" S1 H2=.nx S1 H3:=by have:=Qv (f:="links_from") cv rfl (show H2++List.replicate (n + 1) (.lst [])++ [.lst R]=G++ .ins "Sending" [("scale",.int ((n:Int) + 1)),("left",.ref (G.length + 1))]::(.lst ((s++ [0]).map D.int)::(List.replicate (n + 1) (.lst [])++ [.lst R])) by simp [H2]) (by simp);exact this
  have nx:∀(H:DH) (T:DH) (fs:List (Str×D)) (f:Str) (k:Nat),H=G++ .ins "Sending" fs::T->H.length=k->fs.length < 1000->Eh "Sending" (dV 0) (Cr (dFn Ar Ai)) f S1 H=.nx S1 (G++ .ins "Sending" (Hr f (.ref k) fs)::(T++ [.lst []])):=λH T fs f k e1 e2 e3=>by rw [<-e2];exact Qv ZED rfl (by rw [e1];simp) e3
  have t5:Eh "Sending" (dV 0) (Cr (dFn Ar Ai)) "ends" S1 H3=.nx S1 H4:=by have:=nx H3 _ _ "ends" (G.length + n + 4) rfl (by simp [H3];lia) (by simp);simp only [List.cons_append,List.append_assoc,List.singleton_append] at this;exact this
  have t6:Eh "Sending" (dV 0) (Cr (dFn Ar Ai)) "worths" S1 H4=.nx S1 H5:=by have:=nx H4 _ _ "worths" (G.length + n + 5) rfl (by simp [H4];lia) (by simp);simp only [List.cons_append,List.append_assoc,List.singleton_append,List.nil_append] at this;exact this
  have t7:Eh "Sending" (dV 0) (Cr (dFn Ar Ai)) "rooms" S1 H5=.nx S1 H6:=by have:=nx H5 _ _ "rooms" (G.length + n + 6) rfl (by simp [H5];lia) (by simp);simp only [List.cons_append,List.append_assoc,List.singleton_append,List.nil_append] at this;exact this
  have t8:Ds (Eg (dV 2)) (gV 5) O4 S1 H6=.nx [some (.ref G.length),some (.int n),some (.fl (as.map encA)),some (.fl (s.map D.int)),some (.int (s.sum + 1)),w] Γ:=by
   rw [<-hL];have e6:dV 2 S1 H6=.ok (.fl (as.map encA)) H6:=rfl;rw [ZHJ,ZKy,e6]
   rfl
  have td:tidy (G++ [.ins "Sending" []]) (.ok .non Γ)=.ok .non Γ:=by
   refine ZEy λz=> ?_
   have z1:(Γ.take (G++ [DO.ins "Sending" []]).length)[G.length]? =some (.ins "Sending" []):=by rw [z];simp
   rw [List.getElem?_take_of_lt (by simp)] at z1;have z2:Γ[G.length]? =some (.ins "Sending" (flds n _ _ _ _ _)):=K.ho;rw [z1] at z2;cases z2
  clear_value H6 H5 H4 H3 H2 H1 S1
  unfold Rt Uj;rw [Ck];simp only [ZA8,List.map_cons,List.map_nil,List.cons_append,List.nil_append,List.replicate,t1,t2,t3,t4,t5,t6,t7,t8,ZBv];simp [td]
 ·refine List.ext_getElem? λi=> ?_
  by_cases hi:i < G.length
  ·rw [List.getElem?_take_of_lt hi,hpre i hi,List.getElem?_append_left hi]
  ·rw [List.getElem?_eq_none (by rw [List.length_take];lia),List.getElem?_eq_none (by lia)]
end
theorem ZBJ:∀l:List Nat,Jz (Bc l)=some (l.map λ(i:Nat)=>V.int (i:Int))
 | []=>rfl
 | i::l=>by
  show Jz (.int (i:Int)::Bc l)=_;unfold Jz;rw [ZBJ l]
  rfl
theorem ZA4 (d:Nat):∀l:List Nat,inV (.int (d:Int)) (l.map λ(i:Nat)=>V.int (i:Int))=decide (d∈l)
 | []=>rfl
 | i::l=>by
  have ih:=ZA4 d l;unfold inV at *;rw [List.map_cons,List.any_cons,ih];by_cases h:d=i
  ·subst h;simp [eqV]
  ·have h2:¬i=d:=λz=>h z.symm
   have h3:¬((i:Int)=(d:Int)):=by lia
   simp [eqV,h,h2,h3]
section
variable {n:Nat} {as:List Arc} {s:List Int}
theorem ZJ1 (ok:NetOk n as s) (G:DH):Sg [.int n,.fl (as.map encA)] G=.ok .non G:=by
 have n30:=ok.n2;have m40:=ok.len
 let F:D->Option D:=λd=>match d with
  | .tup [a,_,.non,_]=>some a
  | _=>none
 have hcs:∀S:DSt,Bh 1 [] S= [none]:=λ_=>rfl
 have hc:Df (gV 0) Zq Zi [none] (as.map encA) G=.ok ((as.map encA).filterMap F) G:=Yj λy hy=>by
  obtain ⟨x,hx,rfl⟩:=List.mem_map.mp hy;refine ⟨[some (encA x)],rfl,?_⟩;unfold Zq Zi;cases hm:x.mo with
  | none=>
   refine .inr ⟨?_,.int x.fr,?_,?_⟩
   ·simp [encA,hm,moD,Ew]
   ·simp [encA]
   ·simp [encA,hm,moD,F]
  | some b=>
   refine .inl ⟨?_,?_⟩
   ·simp [encA,hm,moD,Ew]
   ·simp [encA,hm,moD,F]
 have hf:∀l:List Arc,(l.map encA).filterMap F=Bc ((l.filter λx=>x.mo.isNone).map Arc.fr):=λl=>by
  induction l with
  | nil=>rfl
  | cons x l ih=>
   rw [List.map_cons,List.filterMap_cons];cases hm:x.mo with
   | none=>simp [encA,hm,moD,F,List.filter_cons,Bc] at ih ⊢;exact ih
   | some b=>simp [encA,hm,moD,F,List.filter_cons,Bc] at ih ⊢;exact ih
 rw [hf] at hc;have hmem:∀u,u < n->u∈(as.filter λx=>x.mo.isNone).map Arc.fr:=λu hu=>by obtain ⟨x,h1,h2,h3⟩:=ok.way u hu;exact List.mem_map.mpr ⟨x,List.mem_filter.mpr ⟨h1,by rw [h3];rfl⟩,h2⟩
 have hle:(Bc ((as.filter λx=>x.mo.isNone).map Arc.fr)).length<=1000000:=by have:=List.length_filter_le (λx:Arc=>x.mo.isNone) as;simp only [Bc,List.length_map];lia
 have fz:freeze G (.ok (.ref G.length) (G++ [.lst (Bc ((as.filter λx=>x.mo.isNone).map Arc.fr))]))=.ok (.fl (Bc ((as.filter λx=>x.mo.isNone).map Arc.fr))) G:=Cg (Kc λ_ _=>rfl);generalize (as.filter λx=>x.mo.isNone).map Arc.fr=U at *;have hin:∀u,u < n->Pa (.int (u:Int)) (.fl (Bc U)) G=.ok (.bl false) G:=λu hu=>by
  unfold Pa inD;dsimp only
  rw [show Br (.fl (Bc U)) G=some (Bc U) from rfl,show O6 (.int (u:Int))=some (.int (u:Int)) from rfl]
  dsimp only;rw [ZBJ,Option.map_some,ZA4,decide_eq_true (hmem u hu)]
  rfl
 have hL:∀(k i:Nat) (z:Option D) (s0 s1:Option D),i + k<=n->∃w,Bu (gV 3) O3 (Bf (i:Int) k) [s0,s1,some (.fl (Bc U)),z] G=.nx [s0,s1,some (.fl (Bc U)),w] G:=λk=>by
  induction k with
  | zero=>exact λi z s0 s1 _=>⟨z,rfl⟩
  | succ k ih=>
   intro i z s0 s1 hi;have h1:=hin i (by lia);have hb:O3 [s0,s1,some (.fl (Bc U)),some (.int (i:Int))] G=.nx [s0,s1,some (.fl (Bc U)),some (.int (i:Int))] G:=by unfold O3;generalize Bc U=Z at *;simp [h1]
   obtain ⟨w,h2⟩:=ih (i + 1) (some (.int (i:Int))) s0 s1 (by lia);refine ⟨w,?_⟩;rw [Jw,H8];simp only [Fj,R.Dp,List.set,hb,Ef];have e:(i:Int) + 1=((i + 1:Nat):Int):=by lia
   rw [e,h2]
 obtain ⟨w,hL⟩:=hL n 0 none (some (.int n)) (some (.fl (as.map encA))) (by lia);have i1:inR (n:Int):=⟨by lia,by lia⟩;have hL':Bu (gV 3) O3 (Bf 0 n) [some (.int n),some (.fl (as.map encA)),some (.fl (Bc U)),none] G=.nx [some (.int n),some (.fl (as.map encA)),some (.fl (Bc U)),w] G:=hL;generalize Bc U=Z at *;generalize as.map encA=Y at *;unfold Sg T7;rw [Ck];simp [hcs,hc,Ar,hle,fz,i1,hL',Dr]
end
section
variable {N:Lks} {lk:Nat->List Nat} {a:Ad} {x:LR} {Γ:DH}
theorem ZB0:∀(m:Nat) (R:List Int) (i:Nat),R.length=2 * m->i % 2=0->((R.zipIdx i).filterMap λp=>if p.2 % 2=1 then some p.1 else none)=(List.range m).map λj=>R.getD (2 * j + 1) 0
 | 0,R,i,h,_=>by
  have:R= []:=List.eq_nil_of_length_eq_zero (by lia);subst this
  rfl
 | m + 1,R,i,h,hi=>by
  match R,h with
  | r0::r1::R,h=>
   have ih:=ZB0 m R (i + 1 + 1) (by simp at h;lia) (by lia);rw [List.zipIdx_cons,List.zipIdx_cons,List.filterMap_cons,List.filterMap_cons,if_neg (by lia),if_pos (by show (i + 1) % 2=1;lia)];dsimp only;rw [ih,List.range_succ_eq_map,List.map_cons,List.map_map]
   rfl
theorem ZGT (K:SN N lk a x Γ) (o:x.Ok N) (hq:N.q=2 * m) (hm:m<=1000):Kd [.ref a.o] Γ=.ok (.ref Γ.length) (Γ++ [.lst (((List.range m).map λi=>Aa x.R (2 * i + 1)).map D.int)]):=by
 have e1:=K.rooms;have hs:=ZIt K.hr;have rl:=o.rl
 let F:D->Option D:=λd=>match d with
  | .tup [.int i,r]=>if i % 2=1 then some r else none
  | _=>none
 have hcs:∀S:DSt,Bh 2 [] S= [none,none]:=λ_=>rfl
 have hen:∀j,Hv 0 (.ref a.r) j Γ=some (Ie (x.R.map D.int))[j]? :=λj=>by
  have:=ZIC (xs:=x.R.map D.int) j Γ;unfold Hv at this ⊢;rw [hs]
  rw [show Br (.fl (x.R.map D.int)) Γ=some (x.R.map D.int) from rfl] at this
  exact this
 have hc:De (Hv 0 (.ref a.r)) (Ff 2 (Bx (gV 0) (Bx (gV 1) Gz))) ZAJ Yu [none,none] (x.R.map D.int).length 0 Γ=.ok ((Ie (x.R.map D.int)).filterMap F) Γ:=ZB2 hen (λy hy=>by
  unfold Ie at hy;obtain ⟨⟨r,i⟩,h1,rfl⟩:=List.mem_map.mp hy;refine ⟨[some (.int (i:Int)),some r],by simp,?_⟩;unfold ZAJ Yu;by_cases c:(i:Int) % 2=1
  ·exact .inr ⟨by simp [c],r,by simp,by simp [F,c]⟩
  ·exact .inl ⟨by simp [c],by simp [F,c]⟩) (by rw [ZGu];exact Nat.le_refl _)
 have hf:(Ie (x.R.map D.int)).filterMap F=((List.range m).map λi=>Aa x.R (2 * i + 1)).map D.int:=by
  have:=ZB0 m x.R 0 (by lia) rfl;unfold Ie Aa;rw [<-this,List.zipIdx_map,List.map_map,List.filterMap_map,List.map_filterMap]
  congr 1
  funext p;obtain ⟨r,i⟩:=p;have e:((i:Int) % 2=1)=(i % 2=1):=by simp;lia
  by_cases c:i % 2=1 <;> simp [F,c,e]
 rw [hf] at hc;have hle:(((List.range m).map λi=>Aa x.R (2 * i + 1)).map D.int).length<=1000000:=by simp;lia
 have td:tidy Γ (.ok (.ref Γ.length) (Γ++ [.lst (((List.range m).map λi=>Aa x.R (2 * i + 1)).map D.int)]))=.ok (.ref Γ.length) (Γ++ [.lst (((List.range m).map λi=>Aa x.R (2 * i + 1)).map D.int)]):=Hz Ci;have hit:Py [.ref a.r] Γ=.ok (.fn (x.R.map D.int).length (Hv 0 (.ref a.r))) Γ:=by simp [Py,Oi,hs,lenOf]
 generalize ((List.range m).map λi=>Aa x.R (2 * i + 1)).map D.int=Z at *;generalize x.R.map D.int=Y at *;unfold Kd Wg;rw [Ck];simp [e1,hit,hcs,hc,Ar,hle,td]
end
theorem U6:∀k:Nat,k<=s.length->Ag k (Aa s)=(s.take k).sum
 | 0,_=>rfl
 | k + 1,h=>by show Ag k (Aa s) + Aa s k=_;rw [U6 k (by lia),List.take_add_one,List.getElem?_eq_getElem (by lia),List.sum_append,Gh (by lia)];simp
structure BT (n:Nat) (as:List Arc) (s:Nat->Int) (wide:Int) (x:LR):Prop where
 b:Bal n as s wide x
 t:Ag (n + 1) (Aa x.L)=wide - 1
section
variable {n:Nat} {as:List Arc} {s:Nat->Int} {wide:Int} {x:LR}
theorem ZLC (ok:(lkN n as).Ok) (y:LR) (l:Nat) (c:Int) (K:y.Ok (lkN n as)) (hl:l < (lkN n as).q) (h:BT n as s wide y):BT n as s wide (y.sa (lkN n as) ((lkN n as).fr l) l c):=by
 refine ⟨ZFb ok K hl h.b,?_⟩;have h1:Ag (n + 1) (λv=>(if v=(lkN n as).fr l then c else 0))=c:=Gp (x:=λ_=>c) (by have:_<=n:=ok.fr l hl;lia);have h2:Ag (n + 1) (λv=>(if v=(lkN n as).to l then c else 0))=c:=Gp (x:=λ_=>c) (by have:_<=n:=ok.to l hl;lia);have h3:Ag (n + 1) (Aa (y.sa (lkN n as) ((lkN n as).fr l) l c).L) + Ag (n + 1) (λv=>(if v=(lkN n as).fr l then c else 0))=Ag (n + 1) (Aa y.L) + Ag (n + 1) (λv=>(if v=(lkN n as).to l then c else 0)):=by
  rw [<-Dz,<-Dz];refine Cu λv _=> ?_
  rw [Qn ok K hl];lia
 have:=h.t;lia
structure Iv (n:Nat) (as:List Arc) (s:Nat->Int) (wide:Int) (x:LR) (Wl:List Int):Prop where
 ok:x.Ok (lkN n as)
 b:BT n as s wide x
 wl:Wl.length=n + 1
 fx:(lkN n as).Fix (Aa x.R) (Aa Wl)
 pot:(lkN n as).Pot (Aa x.R) (Aa Wl)
 up:∀u,u < n->Aa Wl u<=40000 * (n:Int)
noncomputable def todo (n:Nat) (as:List Arc) (wide:Int) (x:LR) (Wl:List Int):Int:=Ag n (λu=>Aa Wl u + 40000 * (n:Int)) * (40 * wide) + far (lkN n as) (Aa Wl) x
theorem R8 (Z:Netw n as s wide) (K:x.Ok (lkN n as)) (B:BT n as s wide x) (W:Nat->Int):0<=far (lkN n as) W x/\far (lkN n as) W x < 40 * wide:=by
 have n30:=Z.n30;have bd:∀u,u < n->0<=Aa x.L u * lnk (lkN n as) W u/\Aa x.L u * lnk (lkN n as) W u<=30 * Aa x.L u:=λu hu=>by
  have h1:=K.ln u (by show u<=n;lia);have h2:=K5 (N:=lkN n as) (W:=W) u;have h3:lnk (lkN n as) W u<=30:=by have:_<=(n:Int):=h2.2;lia
  refine ⟨Int.mul_nonneg h1 h2.1,?_⟩;rw [Int.mul_comm];exact Int.mul_le_mul_of_nonneg_right h3 h1
 have h1:=Ea (f:=λ_=>0) λu hu=>(bd u hu).1
 rw [Gn] at h1;have h2:=Ea λu hu=>(bd u hu).2
 rw [Wq] at h2;have h3:=ZAN (s:=Aa x.L) (k:=n) (n:=n + 1) (by lia) λv hv=>K.ln v (by show v<=n;lia)
 have h4:=B.t;have h5:0<=Ag n s:=by have:=Ea (f:=λ_=>0) Z.sn;rw [Gn] at this;exact this
 have h6:=Z.wide;refine ⟨h1,?_⟩;show Ag n _ < _;lia
theorem ZF2 {Wl Wl':List Int} (Z:Netw n as s wide) (I:Iv n as s wide x Wl) (I':Iv n as s wide y Wl') (le:∀u,u<=n->Aa Wl' u<=Aa Wl u) (pot:(lkN n as).Pot (Aa y.R) (Aa Wl)) (S:Snt (lkN n as) (Aa Wl) (λl=>l < (lkN n as).q/\(lkN n as).fr l < n) x y) (h:0 < Ag n (Aa x.L)):todo n as wide y Wl' + 1<=todo n as wide x Wl:=by
 have ok:=Le (n:=n) Z.arc Z.n30;have f1:=R8 Z I'.ok I'.b (Aa Wl');have f2:=R8 Z I.ok I.b (Aa Wl);have hwide:0 < 40 * wide:=by lia
 have less:(∃u,u < n/\Aa Wl' u + 1<=Aa Wl u)->todo n as wide y Wl' + 1<=todo n as wide x Wl:=λ⟨u,hu,h1⟩=>by
  have h2:∀v,v < n->(Aa Wl' v + 40000 * (n:Int)) + (if v=u then 1 else 0)<=Aa Wl v + 40000 * (n:Int):=λv hv=>by
   have:=le v (by lia);by_cases e:v=u
   ·rw [if_pos e,e];lia
   ·rw [if_neg e];lia
  have h3:=Ea h2;rw [Dz,Gp (x:=λ_=>1) hu] at h3;have h4:=Int.mul_le_mul_of_nonneg_right h3 (Int.le_of_lt hwide);rw [Int.add_mul,Int.one_mul] at h4;unfold todo;lia
 by_cases hs:far (lkN n as) (Aa Wl) y=far (lkN n as) (Aa Wl) x
 ·obtain ⟨e1,e2,e3⟩:=S.same hs;have hex:∃u,u < n/\0 < Aa x.L u:=by
   refine Classical.byContradiction λz=> ?_
   have h1:∀u,u < n->Aa x.L u<=0:=λu hu=>Int.not_lt.mp λq=>z ⟨u,hu,q⟩
   have:=Ea (g:=λ_=>0) h1;rw [Gn] at this;lia
  obtain ⟨u,hu,h1⟩:=hex;refine less ⟨u,hu,fall ok pot I'.fx le hu λl q1 q2 q3=> ?_⟩;rw [e2];rcases e3 l ⟨q1,by rw [q2];exact hu⟩ (by unfold tight;rw [q2];exact q3) with z | z
  ·rw [q2] at z;lia
  ·exact z
 ·by_cases hw:∃u,u < n/\Aa Wl' u≠Aa Wl u
  ·obtain ⟨u,hu,h1⟩:=hw;have:=le u (by lia);exact less ⟨u,hu,by lia⟩
  ·have eq:∀u,u < n->Aa Wl' u=Aa Wl u:=λu hu=>Classical.byContradiction λz=>hw ⟨u,hu,z⟩
   have h1:far (lkN n as) (Aa Wl') y=far (lkN n as) (Aa Wl) y:=Cu λu hu=>by unfold lnk;rw [eq u hu]
   have h2:Ag n (λu=>Aa Wl' u + 40000 * (n:Int))=Ag n (λu=>Aa Wl u + 40000 * (n:Int)):=Cu λu hu=>by rw [eq u hu]
   have h3:=S.le;unfold todo;rw [h1,h2];lia
variable {lk:Nat->List Nat} {a:Ad} {Γ:DH} {sl:List Int}
theorem ZCI (Z:Netw n as s wide) (n1:1<=n) (hl:LkOf (lkN n as) lk) {x0:LR} (K0:SN (lkN n as) lk a x0 Γ) (hT:∀y,DO.tab "Sending" "send_by"∈hs Γ a y) {A1 A2:D}:∀(fu:Nat) (x:LR) (Wl:List Int),Iv n as s wide x Wl->todo n as wide x Wl < fu->
  ∃x' Wl',sWh Od Nr fu [some (.int n),some A1,some A2,some (.ref a.o),some (.fl (Wl.map D.int)),none,none] (hs Γ a x)=.nx [some (.int n),some A1,some A2,some (.ref a.o),some (.fl (Wl'.map D.int)),none,none] (hs Γ a x')/\Iv n as s wide x' Wl'/\∀u,u < n->Aa x'.L u=0
 | 0,x,Wl,I,h=>by
  have f2:=R8 Z I.ok I.b (Aa Wl);have h1:∀u,u < n->0<=Aa Wl u + 40000 * (n:Int):=λu hu=>by have: -(40000 * (n:Int))<=_:=I.fx.lo u hu;lia
  have h2:=Ea (f:=λ_=>0) h1;rw [Gn] at h2;have:=Int.mul_nonneg h2 (show 0<=40 * wide by lia);unfold todo at h;lia
 | fu + 1,x,Wl,I,h=>by
  have n30:=Z.n30;have ok:=Le (n:=n) Z.arc Z.n30;have K:=K0.at x;have ll:x.L.length=n + 1:=I.ok.ll;have cut:cutD (x.L.map D.int) none (some (n:Int))=(x.L.take n).map D.int:=by rw [Wk (by simp;lia),List.map_take]
  have fz:∀G:DH,freeze G (.ok (.ref G.length) (G++ [.lst ((x.L.take n).map D.int)]))=.ok (.fl ((x.L.take n).map D.int)) G:=λG=>Cg Ci
  have sl:∀G:DH,G[a.l]? =some (.lst (x.L.map D.int))->La (.ref a.l) none (some (n:Int)) G=.ok (.ref G.length) (G++ [.lst ((x.L.take n).map D.int)]):=λG hG=>by
   show (match Ga (.ref a.l) G with | some xs=>R.ok (D.ref G.length) (G++ [DO.lst (cutD xs none (some (n:Int)))]) | none=>R.bad)=_
   rw [show Ga (.ref a.l) G=some (x.L.map D.int) by simp [Ga,hG]];dsimp only;rw [cut]
  have ht:Od [some (.int n),some A1,some A2,some (.ref a.o),some (.fl (Wl.map D.int)),none,none] (hs Γ a x)=.ok (decide (0 < (x.L.take n).sum)) (hs Γ a x):=by have e1:=K.left;have e2:=sl _ K.hl;have e3:=fz (hs Γ a x);have e4:Gw [.fl ((x.L.take n).map D.int)] (hs Γ a x)=.ok (.int (x.L.take n).sum) (hs Γ a x):=Ys;generalize hs Γ a x=Γ9 at *;generalize Wl.map D.int=Y at *;generalize (x.L.take n).map D.int=Y1 at *;unfold Od;simp [e1,e2,e3,e4]
  by_cases c:0 < (x.L.take n).sum
  ·rw [decide_eq_true c] at ht;have c':0 < Ag n (Aa x.L):=by rw [U6 n (by lia)];exact c
   obtain ⟨y,hc,ky,S⟩:=ZJY (R0:=Aa x.R) K (hT x) n1 (by show n<=60;lia) ok ZAS Oz I.fx hl (B:=BT n as s wide) (λy l c h1 h2 h3=>ZLC ok y l c h1 h2 h3) I.wl ⟨I.ok,λl _ h=>.inl h,I.b⟩;rw [ZDY K0.ad.lr] at hc;have pot:=ZE1 ok ZAS I.pot ky.g;obtain ⟨Wl',wl',hw,F',le⟩:=ZCs (π:=Aa Wl) (K0.at y) ky.ok ok hl (by show n<=60;lia) (ZBL Z ky.ok ky.b.b) pot I.fx.z λu hu=>⟨I.fx.lo u hu,I.up u hu⟩
   have I':Iv n as s wide y Wl':=⟨ky.ok,ky.b,wl',F',ZCN ok pot F' I.fx.z le,λu hu=>Int.le_trans (le u (by show u<=n;lia)) (I.up u hu)⟩;have tl:=ZF2 Z I I' le pot S c';obtain ⟨x',Wl2,hL,I2,z⟩:=ZCI Z n1 hl K0 hT (A1:=A1) (A2:=A2) fu y Wl' I' (by lia);refine ⟨x',Wl2,?_,I2,z⟩;have hb:Nr [some (.int n),some A1,some A2,some (.ref a.o),some (.fl (Wl.map D.int)),none,none] (hs Γ a x)=.nx [some (.int n),some A1,some A2,some (.ref a.o),some (.fl (Wl'.map D.int)),none,none] (hs Γ a y):=by
    have m1:=λ(t:DA) (S:DSt)=>K.meth (m:="send_by") (F:=Ol) (t:=t) (S:=S) λ_ _ _ _ _ _=>rfl
    have m2:=λ(t:DA) (S:DSt)=>(K0.at y).meth (m:="best_ways") (F:=Il) (t:=t) (S:=S) λ_ _ _ _ _ _=>rfl
    have f3:freeze (hs Γ a y) (.ok (.ref (hs Γ a y).length) (hs Γ a y++ [.lst (Wl'.map D.int)]))=.ok (.fl (Wl'.map D.int)) (hs Γ a y):=Cg Ci;generalize hs Γ a x=Γ9 at *;generalize hs Γ a y=Γ8 at *;generalize Wl.map D.int=Y at *;generalize Wl'.map D.int=Y' at *;unfold Nr;simp [m1,m2,hc,hw,f3]
   unfold sWh;rw [ht];simp only [R.Dp,if_true,hb,Ef];exact hL
  ·rw [decide_eq_false c] at ht;refine ⟨x,Wl,?_,I,λu hu=> ?_⟩
   ·unfold sWh;rw [ht];simp
   ·have h1:Ag n (Aa x.L)<=0:=by rw [U6 n (by lia)];lia
    have nn:∀v,v < n->0<=Aa x.L v:=λv hv=>I.ok.ln v (by show v<=n;lia)
    have h2:∀v,v < n->(if v=u then Aa x.L v else 0)<=Aa x.L v:=λv hv=>by
     have:=nn v hv
     split <;> lia
    have h3:=Ea h2;rw [Gp (x:=Aa x.L) hu] at h3;have:=nn u hu;lia
end
theorem T9:∀m:Nat,((List.range m).map g).sum=Ag m g
 | 0=>rfl
 | m + 1=>by rw [List.range_succ,List.map_append,List.sum_append,T9 m];show Ag m g + (g m + 0)=Ag m g + g m;lia
section
variable {n:Nat} {as:List Arc} {s:Nat->Int} {wide:Int} {x:LR} {W:Nat->Int}
theorem ZBG (Z:Netw n as s wide) (K:x.Ok (lkN n as)) (B:Bal n as s wide x) (F:(lkN n as).Fix (Aa x.R) W):∀(k u:Nat),u < n->lnk (lkN n as) W u<=k->∃j,TW as.length (Af as) (flo x) (gn (lkN n as) W) n j u
 | 0,u,hu,h=>by have:=Wm (Le (n:=n) Z.arc Z.n30) Oz F (u:=u) hu;lia
 | k + 1,u,hu,h=>by
  have ok:=Le (n:=n) Z.arc Z.n30;obtain ⟨l,q1,q2,q3,q4⟩:=F.att u hu;have q1':l < 2 * as.length:=q1;obtain ⟨t1,t2⟩:=ZBx ok Oz F q1 (by rw [q2];exact hu) (by rw [q2];exact q4);have hto:(lkN n as).to l<=n:=ok.to l q1;have go:∃j,TW as.length (Af as) (flo x) (gn (lkN n as) W) n j ((lkN n as).to l):=by
   by_cases e:(lkN n as).to l=n
   ·rw [e];exact ⟨0,.here⟩
   ·exact ZBG Z K B F k _ (by lia) (by rw [q2] at t2;lia)
  obtain ⟨j,go⟩:=go;by_cases h1:l % 2=0
  ·obtain ⟨f1,f2,f3⟩:=O9 (n:=n) (as:=as) h1;rw [f1] at q2 t1;rw [f2] at go t1;rw [f3] at t1;rw [<-q2];refine ⟨j + 1,.on (by lia) (λb hb=> ?_) (by lia) go⟩;have c:=B.cap (l / 2) (by lia);unfold Gq at c;rw [hb] at c;dsimp only at c;rw [show l=2 * (l / 2) by lia] at q3;unfold flo;lia
  ·obtain ⟨f1,f2,f3⟩:=Vn (n:=n) (as:=as) h1;rw [f1] at q2 t1;rw [f2] at go t1;rw [f3] at t1;rw [<-q2];refine ⟨j + 1,.back (by lia) ?_ (by lia) go⟩;rw [show l=2 * (l / 2) + 1 by lia] at q3;exact q3
theorem TW.congr {f' d d':Nat->Int} (hf:∀i,i < m->f' i=f i) (hd:∀u,u<=n->d' u=d u) (ha:∀i,i < m->(a i).fr<=n/\(a i).to<=n) (h:TW m a f d n k u):TW m a f' d' n k u:=by
 induction h with
 | here=>exact .here
 | on hi hb ht _ ih=>exact .on hi (λb h=>by rw [hf _ hi];exact hb b h) (by rw [hd _ (ha _ hi).1,hd _ (ha _ hi).2];exact ht) ih
 | back hi hb ht _ ih=>exact .back hi (by rw [hf _ hi];exact hb) (by rw [hd _ (ha _ hi).1,hd _ (ha _ hi).2];exact ht) ih
theorem ZGS (Z:Netw n as s wide) (K:x.Ok (lkN n as)) (B:Bal n as s wide x) (h0:∀u,u < n->Aa x.L u=0) (hf:∀i,i < as.length->f i=flo x i):Feas n as.length (Af as) s f:=by
 refine ⟨λi hi=> ?_,λi b hi hb=> ?_,λv hv=> ?_⟩
 ·rw [hf i hi];exact K.rn (2 * i + 1) (by show 2 * i + 1 < 2 * as.length;lia)
 ·have c:=B.cap i hi;have r:=K.rn (2 * i) (by show 2 * i < 2 * as.length;lia);unfold Gq at c;rw [hb] at c;rw [hf i hi];unfold flo;dsimp only at c;lia
 ·have b:=B.bal v hv;rw [h0 v hv] at b;have e:∀q:Nat->Nat,Ag as.length (λi=>if q i=v then f i else 0)=Ag as.length (λi=>if q i=v then flo x i else 0):=λq=>Cu λi hi=>by rw [hf i hi]
  unfold ex Bj inA at b;unfold Bj inA;rw [e λi=>(Af as i).fr,e λi=>(Af as i).to];lia
end
theorem ZFs {G':DH} (h:G'.take G.length=G) (hb:bel G.length d=true):tidy G (.ok d G')=.ok d G:=by unfold tidy;dsimp only;rw [if_pos h,if_pos hb]
section
variable {n:Nat} {as:List Arc} {s:List Int}
theorem Ww (ok:NetOk n as s):Netw n as (Aa s) (s.sum + 1):=by
 have sl:=ok.sl;refine ⟨ok.n2,ok.arc,λk hk=> ?_,λv hv=> ?_,?_⟩
 ·obtain ⟨x,h1,h2,h3⟩:=ok.way k hk;obtain ⟨i,hi,e⟩:=List.getElem_of_mem h1
  refine ⟨i,hi,?_,?_⟩ <;> rw [Ig hi,e] <;> assumption
 ·rw [Gh (by lia)];exact ok.sn _ (List.getElem_mem _)
 ·rw [U6 n (by lia),List.take_of_length_le (by lia)]
theorem ZJm (ok:NetOk n as s):LR.Ok (lkN n as) ⟨s++ [0],Du (s.sum + 1) as⟩/\BT n as (Aa s) (s.sum + 1) ⟨s++ [0],Du (s.sum + 1) as⟩:=by
 have Z:=Ww ok;have sl:=ok.sl;have hL:∀u,Aa (s++ [0]) u=Aa s u:=λu=>by
  unfold Aa;simp only [List.getD_eq_getElem?_getD];by_cases h:u < s.length
  ·rw [List.getElem?_append_left h]
  ·rw [List.getElem?_eq_none (l:=s) (by lia),List.getElem?_append_right (by lia)];by_cases e:u=s.length
   ·rw [e,Nat.sub_self];rfl
   ·rw [List.getElem?_eq_none (by simp;lia)]
 have hn0:Aa s n=0:=by
  unfold Aa;rw [List.getD_eq_getElem?_getD,List.getElem?_eq_none (by lia)]
  rfl
 have hsum:0<=Ag n (Aa s):=by have:=Ea (f:=λ_=>0) Z.sn;rw [Gn] at this;exact this
 have hw:=Z.wide;refine ⟨⟨by simp [sl];rfl,Rn as,λu hu=> ?_,λl hl=> ?_⟩,⟨⟨λi hi=> ?_,λv hv=> ?_⟩,?_⟩⟩
 ·dsimp only;rw [hL];by_cases e:u=n
  ·rw [e,hn0];exact Int.le_refl _
  ·exact Z.sn u (by have:u<=n:=hu;lia)
 ·have hl':l < 2 * as.length:=hl;have h1:=Q9 (wide:=s.sum + 1) as (l / 2) (by lia);dsimp only;by_cases h2:l % 2=0
  ·rw [show l=2 * (l / 2) by lia,h1.1];unfold Gq;cases hm:(Af as (l / 2)).mo with
   | none=>dsimp only;lia
   | some b=>exact (ArcOk.of ok.arc (by lia)).mo b hm
  ·rw [show l=2 * (l / 2) + 1 by lia,h1.2];exact Int.le_refl _
 ·have h1:=Q9 (wide:=s.sum + 1) as i hi;dsimp only;rw [h1.1,h1.2,Int.add_zero]
 ·have h0:∀q:Nat->Nat,Ag as.length (λi=>if q i=v then flo ⟨s++ [0],Du (s.sum + 1) as⟩ i else 0)=0:=λq=>by
   rw [Cu (g:=λ_=>0) λi hi=> ?_,Gn];have:flo ⟨s++ [0],Du (s.sum + 1) as⟩ i=0:=(Q9 (wide:=s.sum + 1) as i hi).2;rw [this]
   split <;> rfl
  dsimp only;rw [hL];unfold ex Bj inA;rw [h0 λi=>(Af as i).fr,h0 λi=>(Af as i).to];lia
 ·dsimp only;show Ag n _ + Aa (s++ [0]) n=_;rw [hL,hn0,Cu λu _=>hL u];lia
theorem ZKZ (ok:NetOk n as s) {x:LR} {Wl:List Int} (I:Iv n as (Aa s) (s.sum + 1) x Wl):todo n as (s.sum + 1) x Wl < (fuel:Int):=by
 have Z:=Ww ok;have n30:=ok.n2;have f2:=R8 Z I.ok I.b (Aa Wl);have cst:∀(c:Int) (k:Nat),Ag k (λ_=>c)=c * k:=λc k=>by
  induction k with
  | zero=>show 0=c * 0;rw [Int.mul_zero]
  | succ k ih=>
   show Ag k _ + c=_;rw [ih,Int.natCast_add,Int.mul_add];lia
 have h1:=Ea (n:=n) (g:=λ_=>(2400000:Int)) λu hu=>show Aa Wl u + 40000 * (n:Int)<=2400000 by have:=I.up u hu;lia
 rw [cst] at h1;have h2:=Ea (n:=n) (f:=Aa s) (g:=λ_=>(10 ^ 40:Int)) λu hu=>show Aa s u<=10 ^ 40 by have sl:=ok.sl;rw [Gh (by lia)];exact Int.le_of_lt (ok.sb _ (List.getElem_mem _))
 rw [cst] at h2;have h3:=Z.wide;have h4:s.sum + 1<=10 ^ 42:=by have:(10 ^ 40:Int) * (n:Int)<=10 ^ 40 * 30:=Int.mul_le_mul_of_nonneg_left (by lia) (by decide);lia
 have h5:Ag n (λu=>Aa Wl u + 40000 * (n:Int))<=72000000:=by lia
 have h6:=Int.mul_le_mul_of_nonneg_right h5 (show 0<=40 * (s.sum + 1) by lia);unfold todo fuel;lia
end
section
variable {n:Nat} {as:List Arc} {s:List Int}
theorem ZJL (ok:NetOk n as s) (G:DH) (hT:DO.tab "Sending" "send_by"∈G):∃e f p,BestOk n as s e f p/\Ny [.int n,.fl (as.map encA),.fl (s.map D.int)] G=.ok (.tup [.int e,.fl (f.map D.int),.fl (p.map D.int)]) G:=by
 have Z:=Ww ok;have n30:=ok.n2;have m40:=ok.len;have lok:=Le (n:=n) Z.arc Z.n30;obtain ⟨Γ,hi,K,hpre,hlt⟩:=ZHz ok G;obtain ⟨o0,b0⟩:=ZJm ok;have hl:LkOf (lkN n as) (lkC (lkN n as) (lkN n as).q):=ZJ2;have pot0:=ZFz (rm:=Aa (Du (s.sum + 1) as)) Z λi hi=>(Q9 as i hi).2
 obtain ⟨Wl,wl,hw,F,le⟩:=ZCs (π:=λu=>40000 * ((n:Int) - u)) K o0 lok hl (by show n<=60;lia) (ZBL Z o0 b0.b) pot0 (by show 40000 * ((n:Int) - n)=0;lia) λu hu=>by have hu':u < n:=hu;show -(40000 * (n:Int))<=40000 * ((n:Int) - u)/\40000 * ((n:Int) - u)<=40000 * (n:Int);lia
 have I0:Iv n as (Aa s) (s.sum + 1) ⟨s++ [0],Du (s.sum + 1) as⟩ Wl:=⟨o0,b0,wl,F,ZCN lok pot0 F (by show 40000 * ((n:Int) - n)=0;lia) le,λu hu=>by have h1:=le u (by show u<=n;lia);have h2:Aa Wl u<=40000 * ((n:Int) - u):=h1;lia⟩
 have hsp:∀y,(hs Γ (adr G.length n) y).take G.length=G:=λy=>by
  refine List.ext_getElem? λi=> ?_
  by_cases hi:i < G.length
  ·rw [List.getElem?_take_of_lt hi];unfold hs adr;dsimp only;rw [List.getElem?_set_ne (by lia),List.getElem?_set_ne (by lia),<-List.getElem?_take_of_lt hi,hpre]
  ·rw [List.getElem?_eq_none (by rw [List.length_take];lia),List.getElem?_eq_none (by lia)]
 have hT':∀y,DO.tab "Sending" "send_by"∈hs Γ (adr G.length n) y:=λy=>List.mem_of_mem_take (i:=G.length) (by rw [hsp y];exact hT)
 obtain ⟨x,Wl',hL,I,hz⟩:=ZCI Z ok.n1 hl K hT' (A1:=.fl (as.map encA)) (A2:=.fl (s.map D.int)) fuel _ Wl I0 (ZKZ ok I0);rw [K.hs] at hL;have Kx:=K.at x;have hfl:=ZGT (m:=as.length) Kx I.ok rfl (by lia);have Sl:=ZHw Z I.ok I.b.b I.fx I.pot;have wl':Wl'.length=n + 1:=I.wl;have eF:∀i,i < as.length->Aa ((List.range as.length).map λi=>Aa x.R (2 * i + 1)) i=flo x i:=λi hi=>by rw [Gh (by simpa using hi)];simp [flo]
 have eP:∀u,u<=n->Aa ((List.range n).map (gn (lkN n as) (Aa Wl'))) u=gn (lkN n as) (Aa Wl') u:=λu hu=>by
  by_cases e:u=n
  ·subst e;have e0:Aa Wl' u=0:=I.fx.z;have e1:Aa ((List.range u).map (gn (lkN u as) (Aa Wl'))) u=0:=by
    unfold Aa;rw [List.getD_eq_getElem?_getD,List.getElem?_eq_none (by simp)]
    rfl
   rw [e1];unfold gn;rw [e0];simp
  ·rw [Gh (by simp;lia)];simp
 refine ⟨(((List.range as.length).map λi=>Aa x.R (2 * i + 1) * (Af as i).ga)).sum,(List.range as.length).map λi=>Aa x.R (2 * i + 1),(List.range n).map (gn (lkN n as) (Aa Wl')),⟨by simp,by simp,ZGS Z I.ok I.b.b hz eF,⟨λi hi h=> ?_,λi hi h=> ?_⟩,?_,λu hu=> ?_,λv hv=> ?_⟩,?_⟩
 ·have A:=ArcOk.of ok.arc hi;have h1:=A.lt;rw [eP _ A.le,eP _ (by lia)];exact Sl.more i hi λb hb=>by rw [<-eF i hi];exact h b hb
 ·have A:=ArcOk.of ok.arc hi;have h1:=A.lt;rw [eP _ A.le,eP _ (by lia)];exact Sl.some_ i hi (by rw [<-eF i hi];exact h)
 ·rw [T9];exact Cu λi hi=>by rw [eF i hi];rfl
 ·obtain ⟨j,h⟩:=ZBG Z I.ok I.b.b I.fx n u hu (by have:=(K5 (N:=lkN n as) (W:=Aa Wl') u).2;have:lnk (lkN n as) (Aa Wl') u<=(n:Int):=this;lia);exact ⟨j,h.congr eF eP λi hi=>⟨by have:=(ArcOk.of ok.arc hi).lt;lia,(ArcOk.of ok.arc hi).le⟩⟩
 ·obtain ⟨u,hu,rfl⟩:=List.mem_map.mp hv;have hu:=List.mem_range.mp hu;have h1: -(40000 * (n:Int))<=Aa Wl' u:=I.fx.lo u hu;have h2:=I.up u hu;have e:gn (lkN n as) (Aa Wl') u= -(-Aa Wl' u / ((n:Int) + 1)):=rfl;rw [e];have h3:=Int.le_ediv_of_mul_le (a:= -1000000000) (b:= -Aa Wl' u) (c:=(n:Int) + 1) (by lia) (by lia);have h4:=Int.ediv_le_of_le_mul (a:= -Aa Wl' u) (b:=1000000000) (c:=(n:Int) + 1) (by lia) (by lia)
  lia
 ·have aI:(List.range as.length).map (λi=>encA (Af as i))=as.map encA:=by
   refine List.ext_getElem (by simp) λi h1 h2=> ?_
   have hi:i < as.length:=by simpa using h2
   simp [Ig hi]
  have c1:=ZJ1 ok G;have m1:∀(t:DA) (S:DSt),Ib "Sending" "best_ways" Il t S (.ref G.length) Γ=(t S Γ).bind λds G2=>Il (.ref G.length::ds) G2:=λt S=>K.meth λ_ _ _ _ _ _=>rfl
  have m2:∀(t:DA) (S:DSt),Ib "Sending" "flow_sent" Kd t S (.ref G.length) (hs Γ (adr G.length n) x)=(t S (hs Γ (adr G.length n) x)).bind λds G2=>Kd (.ref G.length::ds) G2:=λt S=>Kx.meth λ_ _ _ _ _ _=>rfl
  have m3:∀(t:DA) (S:DSt),Ib "Sending" "gain_of" K9 t S (.ref G.length) (hs Γ (adr G.length n) x)=(t S (hs Γ (adr G.length n) x)).bind λds G2=>K9 (.ref G.length::ds) G2:=λt S=>Kx.meth λ_ _ _ _ _ _=>rfl
  have hw':Il [.ref G.length] Γ=.ok (.ref Γ.length) (Γ++ [.lst (Wl.map D.int)]):=hw;have fw:freeze Γ (.ok (.ref Γ.length) (Γ++ [.lst (Wl.map D.int)]))=.ok (.fl (Wl.map D.int)) Γ:=Cg Ci;have hL':sWh Od Nr fuel [some (.int n),some (.fl (as.map encA)),some (.fl (s.map D.int)),some (.ref G.length),some (.fl (Wl.map D.int)),none,none] Γ=.nx [some (.int n),some (.fl (as.map encA)),some (.fl (s.map D.int)),some (.ref G.length),some (.fl (Wl'.map D.int)),none,none] (hs Γ (adr G.length n) x):=hL
  have cg:∀u,u < n->K9 [.ref G.length,.int (Aa Wl' u)] (hs Γ (adr G.length n) x)=.ok (.int (gn (lkN n as) (Aa Wl') u)) (hs Γ (adr G.length n) x):=λu hu=>ZFU (w:=Aa Wl' u) (by show n < 1000;lia) Kx
  have hfl':Kd [.ref G.length] (hs Γ (adr G.length n) x)=_:=hfl;have td:∀d,bel G.length d=true->tidy G (.ok d (hs Γ (adr G.length n) x))=.ok d G:=λd hd=>ZFs (hsp x) hd
  clear hL hw hfl hsp hT' K Kx;generalize hs Γ (adr G.length n) x=Γ9 at *;have ff:freeze Γ9 (.ok (.ref Γ9.length) (Γ9++ [.lst (((List.range as.length).map λi=>Aa x.R (2 * i + 1)).map D.int)]))=.ok (.fl (((List.range as.length).map λi=>Aa x.R (2 * i + 1)).map D.int)) Γ9:=Cg Ci;have hcs:∀S:DSt,Bh 2 [] S= [none,none]:=λ_=>rfl
  have z1:Lf 2 [.fl (((List.range as.length).map λi=>Aa x.R (2 * i + 1)).map D.int),.fl (as.map encA)] Γ9=.ok (.fn (((List.range as.length).map λi=>Aa x.R (2 * i + 1)).map D.int).length (Ik [.fl (((List.range as.length).map λi=>Aa x.R (2 * i + 1)).map D.int),.fl (as.map encA)])) Γ9:=ZIu W7 W7;have z2:De (Ik [.fl (((List.range as.length).map λi=>Aa x.R (2 * i + 1)).map D.int),.fl (as.map encA)]) (Ff 2 (Bx (gV 0) (Bx (gV 1) Gz))) Cd Xw [none,none] (((List.range as.length).map λi=>Aa x.R (2 * i + 1)).map D.int).length 0 Γ9=.ok (((List.range as.length).map λi=>Aa x.R (2 * i + 1) * (Af as i).ga).map D.int) Γ9:=by
   rw [ZB2 (F:=λd=>match d with | .tup [.int f,.tup [_,_,_,.int g]]=>some (.int (f * g)) | _=>none) (λj=>ZIp W7 W7 j) (λy hy=> ?_) (by simp [Nu])]
   ·congr 1
    rw [<-aI,Nu,List.map_map,List.zip_map',List.map_map,List.filterMap_map,List.map_map];exact congrFun List.filterMap_eq_map' _
   ·rw [<-aI,Nu,List.map_map,List.zip_map',List.map_map] at hy;obtain ⟨i,hi,rfl⟩:=List.mem_map.mp hy;have A:=(ArcOk.of ok.arc (List.mem_range.mp hi)).ga;refine ⟨[some (.int (Aa x.R (2 * i + 1))),some (encA (Af as i))],by simp,.inr ⟨rfl,.int (Aa x.R (2 * i + 1) * (Af as i).ga),?_,rfl⟩⟩;have mu:Bo (.int (Aa x.R (2 * i + 1))) (.int (Af as i).ga) Γ9=.ok (.int (Aa x.R (2 * i + 1) * (Af as i).ga)) Γ9:=Lp (by lia) (by lia)
    unfold Xw encA;simp [mu]
  have hn1:(((List.range as.length).map λi=>Aa x.R (2 * i + 1) * (Af as i).ga).map D.int).length<=1000000:=by simp;lia
  have f2:freeze Γ9 (.ok (.ref Γ9.length) (Γ9++ [.lst (((List.range as.length).map λi=>Aa x.R (2 * i + 1) * (Af as i).ga).map D.int)]))=.ok (.fl (((List.range as.length).map λi=>Aa x.R (2 * i + 1) * (Af as i).ga).map D.int)) Γ9:=Cg Ci;have sm:Gw [.fl (((List.range as.length).map λi=>Aa x.R (2 * i + 1) * (Af as i).ga).map D.int)] Γ9=.ok (.int (((List.range as.length).map λi=>Aa x.R (2 * i + 1) * (Af as i).ga)).sum) Γ9:=Ys
  have sw:La (.fl (Wl'.map D.int)) none (some (n:Int)) Γ9=.ok (.ref Γ9.length) (Γ9++ [.lst (((List.range n).map (Aa Wl')).map D.int)]):=by
   rw [ZDm,Wk (by simp;lia)];have:(Wl'.map D.int).take n=((List.range n).map (Aa Wl')).map D.int:=by
    refine List.ext_getElem (by simp;lia) λi h1 h2=> ?_
    have hi:i < n:=by simp at h2;lia
    simp [Gh (show i < Wl'.length by lia)]
   rw [this]
  have f3:freeze Γ9 (.ok (.ref Γ9.length) (Γ9++ [.lst (((List.range n).map (Aa Wl')).map D.int)]))=.ok (.fl (((List.range n).map (Aa Wl')).map D.int)) Γ9:=Cg Ci;have p1:Df (gV 0) Cd Ph [none,some (.ref G.length)] (((List.range n).map (Aa Wl')).map D.int) Γ9=.ok (((List.range n).map (gn (lkN n as) (Aa Wl'))).map D.int) Γ9:=by
   rw [List.map_map,List.map_map];have:∀l:List Nat,(∀u∈l,u < n)->Df (gV 0) Cd Ph [none,some (.ref G.length)] (l.map (D.int ∘ Aa Wl')) Γ9=.ok (l.map (D.int ∘ gn (lkN n as) (Aa Wl'))) Γ9:=λl=>by
    induction l with
    | nil=>exact λ_=>rfl
    | cons u l ih=>
     intro h;have h1:=cg u (h u (by simp));have hb:Ph [some (.int (Aa Wl' u)),some (.ref G.length)] Γ9=.ok (.int (gn (lkN n as) (Aa Wl') u)) Γ9:=by unfold Ph;simp [m3,h1]
     rw [List.map_cons,Zc];simp [hb,ih λv hv=>h v (by simp [hv]),Cd]
   exact this _ λu hu=>List.mem_range.mp hu
  have hn2:(((List.range n).map (gn (lkN n as) (Aa Wl'))).map D.int).length<=1000000:=by simp;lia
  have f4:freeze Γ9 (.ok (.ref Γ9.length) (Γ9++ [.lst (((List.range n).map (gn (lkN n as) (Aa Wl'))).map D.int)]))=.ok (.fl (((List.range n).map (gn (lkN n as) (Aa Wl'))).map D.int)) Γ9:=Cg Ci;have hcs2:∀v0 v1 v2 v4 v5 v6:Option D,Bh 1 [3] [v0,v1,v2,some (.ref G.length),v4,v5,v6]= [none,some (.ref G.length)]:=λ_ _ _ _ _ _=>rfl
  have fin:=td (.tup [.int (((List.range as.length).map λi=>Aa x.R (2 * i + 1) * (Af as i).ga)).sum,.fl (((List.range as.length).map λi=>Aa x.R (2 * i + 1)).map D.int),.fl (((List.range n).map (gn (lkN n as) (Aa Wl'))).map D.int)]) (by show (true && (bels _ _ && (bels _ _ && true)))=true;rw [Ci,Ci];rfl);clear td aI cg;generalize (((List.range as.length).map λi=>Aa x.R (2 * i + 1) * (Af as i).ga)).sum=e at *
  generalize ((List.range as.length).map λi=>Aa x.R (2 * i + 1) * (Af as i).ga).map D.int=Y1 at *;generalize ((List.range as.length).map λi=>Aa x.R (2 * i + 1)).map D.int=Y2 at *;generalize ((List.range n).map (gn (lkN n as) (Aa Wl'))).map D.int=Y3 at *;generalize ((List.range n).map (Aa Wl')).map D.int=Y4 at *;generalize Wl.map D.int=Y5 at *;generalize Wl'.map D.int=Y6 at *;generalize as.map encA=Y7 at *
  generalize s.map D.int=Y8 at *;unfold Ny Ue ZCR ZCj ZCy ZDG ZBK ZBI;rw [Ck];simp [-ZDm,c1,ZDn,hi,m1,hw',fw,hL',m2,hfl',ff,z1,hcs,z2,Ar,hn1,f2,sm,sw,f3,hcs2,p1,hn2,f4,fin]
end
noncomputable def Cw (R:List Int) (u:Nat) (v:Int):List Int:=R.set u v
theorem Lb {R:List Int} {v:Int}:(Cw R u v).length=R.length:=by simp [Cw]
theorem Kg {R:List Int} {v:Int} (hu:u < R.length):Aa (Cw R u v) w=if w=u then v else Aa R w:=by
 unfold Cw Aa;simp only [List.getD_eq_getElem?_getD];by_cases e:w=u
 ·subst e;rw [List.getElem?_set_self hu];simp
 ·rw [List.getElem?_set_ne λz=>e z.symm,if_neg e]
theorem Xo {R:List Int} {v:Int}:(R.map D.int).set u (.int v)=(Cw R u v).map D.int:=by rw [Cw,List.map_set]
noncomputable def red (a:Arc) (p:Nat->Int):Int:=a.ga + p a.to - p a.fr
noncomputable def Cv (a:Arc) (p:Nat->Int):Int:=match a.mo with
 | none=>0
 | some b=>b * max 0 (red a p)
theorem ZH0 {s:Nat->Int} (F:Feas n m a s f) (S:Slack m a f p) (hi:i < m):f i * red (a i) p=Cv (a i) p:=by
 have h1:=S.more i hi;have h2:=S.some_ i hi;have h3:=F.nn i hi;have h4:=F.le i;unfold Cv;have hr:red (a i) p=(a i).ga + p (a i).to - p (a i).fr:=rfl;generalize red (a i) p=r at *;rcases Int.lt_trichotomy r 0 with z | z | z
 ·have hf:f i=0:=by lia
  rw [hf,Int.zero_mul];cases hm:(a i).mo with
  | none=>rfl
  | some b=>
   show 0=b * max 0 r;rw [show max 0 r=0 by lia,Int.mul_zero]
 ·rw [z,Int.mul_zero];cases hm:(a i).mo with
  | none=>rfl
  | some b=>show 0=b * max 0 0;rw [show max (0:Int) 0=0 by lia,Int.mul_zero]
 ·cases hm:(a i).mo with
  | none=>
   have:=h1 λb hb=>by rw [hm] at hb;cases hb
   lia
  | some b=>
   have h5:=h4 b hi hm;have h6:b<=f i:=Int.not_lt.mp λhlt=>by
    have:=h1 λb' hb'=>by rw [hm] at hb';cases hb';exact hlt
    lia
   show f i * r=b * max 0 r;rw [show f i=b by lia,show max 0 r=r by lia]
theorem ZDl {f p:List Int} (ok:NetOk n as s) (b:BestOk n as s e f p):Ag n (λu=>Aa s u * Aa p u) + Ag as.length (λi=>Cv (Af as i) (Aa p))=e:=by
 rw [b.ea,ZIy b.p0 (ZGU ok.arc) b.fe];have e1:Ag n (λu=>Aa s u * Aa p u)=Ag n λu=>Aa p u * Aa s u:=Cu λu _=>Int.mul_comm _ _
 have e2:Ag as.length (λi=>Cv (Af as i) (Aa p))=Ag as.length (λi=>Aa f i * ((Af as i).ga + Aa p (Af as i).to - Aa p (Af as i).fr)):=Cu λi hi=>(ZH0 b.fe b.sl hi).symm
 lia
theorem ZBP (S:Slack m a f p) (hi:i < m) (hm:(a i).mo=none):red (a i) p<=0:=by
 have:=S.more i hi λb hb=>by rw [hm] at hb;cases hb
 unfold red;lia
noncomputable def wN (n v:Nat) (p h:Nat->Int):Int:=Ag n λu=>if v<=u then p u * h u else 0
theorem Yi (hp:p n=0) (hl:h.length=n + 1) (hv:v<=w) (hw:w<=n):wN n v p (Aa (Cw h w x))=wN n v p (Aa h) + p w * (x - Aa h w):=by
 unfold wN;by_cases e:w < n
 ·have:(λu=>if v<=u then p u * Aa (Cw h w x) u else 0)=λu=>(if v<=u then p u * Aa h u else 0) + (if u=w then (λu=>p u * (x - Aa h u)) u else 0):=by
   funext u;rw [Kg (by lia)];by_cases e2:u=w
   ·subst e2;rw [if_pos rfl,if_pos rfl,if_pos hv,if_pos hv];show p u * x=p u * Aa h u + p u * (x - Aa h u);rw [Int.mul_sub];lia
   ·rw [if_neg e2,if_neg e2,Int.add_zero]
  rw [this,Dz,Gp e]
 ·have e2:w=n:=by lia
  subst e2;rw [hp,Int.zero_mul,Int.add_zero];refine Cu λu hu=> ?_
  have:Aa (Cw h w x) u=Aa h u:=by rw [Kg (by lia),if_neg (by lia)]
  simp only [this]
theorem ZGb {h:Nat->Int} (hv:v < n):wN n v p h=wN n (v + 1) p h + p v * h v:=by
 unfold wN;have:(λu=>if v<=u then p u * h u else 0)=λu=>(if v + 1<=u then p u * h u else 0) + (if u=v then (λu=>p u * h u) u else 0):=by
  funext u;by_cases e:u=v
  ·subst e;rw [if_pos (by lia),if_neg (by lia),if_pos rfl];show p u * h u=0 + p u * h u;lia
  ·rw [if_neg e,Int.add_zero];by_cases e2:v<=u
   ·rw [if_pos e2,if_pos (by lia)]
   ·rw [if_neg e2,if_neg (by lia)]
 rw [this,Dz,Gp hv]
theorem ZIK {h:Nat->Int}:wN n n p h=0:=by unfold wN;rw [Cu (g:=λ_=>0) λu hu=>if_neg (by lia),Gn]
theorem ZGY {h:Nat->Int}:wN n 0 p h=Ag n λu=>p u * h u:=by unfold wN;exact Cu λu _=>if_pos (by lia)
theorem ZHD {a:Arc} {g:Int} (h0:0<=g) (hb:∀b,a.mo=some b->g<=b) (hn:a.mo=none->red a p<=0):g * red a p<=Cv a p:=by
 unfold Cv;cases hm:a.mo with
 | none=>
  have:=hn hm;exact Int.mul_nonpos_of_nonneg_of_nonpos h0 this
 | some b=>
  have h1:=hb b hm;show g * red a p<=b * max 0 (red a p);have a1:=Int.mul_le_mul_of_nonneg_left (show red a p<=max 0 (red a p) by lia) h0;have a2:=Int.mul_le_mul_of_nonneg_right h1 (show 0<=max 0 (red a p) by lia);lia
theorem ZFy {c:Nat->Int} (h:∀i,i < as.length->(Af as i).fr < n):Ag n (λu=>Bj (Af as) as.length c u)=Ag as.length c:=by have:=ZAB (q:=λi=>(Af as i).fr) (f:=c) (p:=λ_=>1) (n:=n) (m:=as.length) h;simp only [Int.mul_one,Int.one_mul] at this;exact this.symm
theorem ZKh {c:Arc->Int}:(as.map c).sum=Ag as.length λi=>c (Af as i):=by
 rw [<-T9]
 congr 1
 refine List.ext_getElem (by simp) λi h1 h2=> ?_
 have hi:i < as.length:=by simpa using h1
 simp [Ig hi]
theorem ZBB {p:List Int} (lp:p.length=n) (pb:∀v∈p,-1000000000<=v/\v<=1000000000) {G:DH} {s0 s1 s2 s3:Option D}:∀(as:List Arc) (t:Int) (x6 x7 x8 x9 x10:Option D),(∀a∈as,ArcOk n a/\(a.mo=none->red a (Aa p)<=0))->∃y6 y7 y8 y9 y10,
  Bu (Ff 4 (Bx (gV 6) (Bx (gV 7) (Bx (gV 8) (Bx (gV 9) Gz))))) Tq (as.map encA) [s0,s1,s2,s3,some (.fl (p.map D.int++ [.int 0])),some (.int t),x6,x7,x8,x9,x10] G=
   .nx [s0,s1,s2,s3,some (.fl (p.map D.int++ [.int 0])),some (.int (t + (as.map λa=>Cv a (Aa p)).sum)),y6,y7,y8,y9,y10] G
 | [],t,x6,x7,x8,x9,x10,_=>⟨x6,x7,x8,x9,x10,by rw [List.map_nil,Jf,List.map_nil,List.sum_nil,Int.add_zero]⟩
 | a::as,t,x6,x7,x8,x9,x10,h=>by
  obtain ⟨A,hn⟩:=h a (by simp);obtain ⟨y6,y7,y8,y9,y10,hL⟩:=ZBB lp pb (s0:=s0) (s1:=s1) (s2:=s2) (s3:=s3) (G:=G) as (t + Cv a (Aa p)) (some (.int a.fr)) (some (.int a.to)) (some (moD a.mo)) (some (.int a.ga)) (some (.int (red a (Aa p)))) (λb hb=>h b (List.mem_cons_of_mem _ hb));refine ⟨y6,y7,y8,y9,y10,?_⟩;have e3:=Zf (xs:=p) (i:=a.fr) (by have:=A.lt;lia);have e4:=Zf (xs:=p) (i:=a.to) (by have:=A.le;lia)
  have pbN:∀i,-1000000000<=Aa p i/\Aa p i<=1000000000:=λi=>by
   by_cases hi:i < p.length
   ·rw [Gh hi];exact pb _ (List.getElem_mem hi)
   ·unfold Aa;rw [List.getD_eq_getElem?_getD,List.getElem?_eq_none (by lia)]
    decide
  have b1:=pbN a.fr;have b2:=pbN a.to;have b3:=A.ga;have hr:a.ga + Aa p a.to - Aa p a.fr=red a (Aa p):=rfl;have hb:Tq [s0,s1,s2,s3,some (.fl (p.map D.int++ [.int 0])),some (.int t),some (.int a.fr),some (.int a.to),some (moD a.mo),some (.int a.ga),x10] G=
    .nx [s0,s1,s2,s3,some (.fl (p.map D.int++ [.int 0])),some (.int (t + Cv a (Aa p))),some (.int a.fr),some (.int a.to),some (moD a.mo),some (.int a.ga),some (.int (red a (Aa p)))] G:=by
   have br: -3000000000<=red a (Aa p)/\red a (Aa p)<=3000000000:=by lia
   have hc:Cv a (Aa p)=match a.mo with | none=>0 | some b=>b * max 0 (red a (Aa p)):=rfl
   rw [hc];clear hc hL;generalize red a (Aa p)=r at *;generalize p.map D.int++ [.int 0]=P at *;generalize Aa p a.fr=u1 at *;generalize Aa p a.to=u2 at *;unfold Tq;cases hm:a.mo with
   | none=>
    have q:=hn hm;have q':¬0 < r:=by lia
    simp [e3,e4,hr,moD,q']
   | some b=>
    have mu:∀H:DH,Bo (.int b) (.int (max 0 r)) H=.ok (.int (b * max 0 r)) H:=λH=>Lp (by lia) (by lia)
    simp [e3,e4,hr,moD,mu]
  rw [List.map_cons,H8];have eA:encA a=.tup [.int a.fr,.int a.to,moD a.mo,.int a.ga]:=rfl;rw [eA];have eg:(Ff 4 (Bx (gV 6) (Bx (gV 7) (Bx (gV 8) (Bx (gV 9) Gz))))) (.tup [.int a.fr,.int a.to,moD a.mo,.int a.ga]) [s0,s1,s2,s3,some (.fl (p.map D.int++ [.int 0])),some (.int t),x6,x7,x8,x9,x10] G=.ok [s0,s1,s2,s3,some (.fl (p.map D.int++ [.int 0])),some (.int t),some (.int a.fr),some (.int a.to),some (moD a.mo),some (.int a.ga),x10] G:=by simp
  rw [eg];simp only [R.Dp,hb,Ef];rw [hL,List.map_cons,List.sum_cons];rw [Int.add_assoc]
theorem ZH1 {f p:List Int} (ok:NetOk n as s) (b:BestOk n as s e f p) (G:DH):Up [.int n,.fl (as.map encA),.fl (s.map D.int),.fl (p.map D.int)] G=.ok (.int e) G:=by
 have okn:=ok.n2;have f3:freeze G (.ok (.ref G.length) (G++ [.lst [.int 0]]))=.ok (.fl [.int 0]) G:=Cg rfl;have f4:freeze G (.ok (.ref G.length) (G++ [.lst (p.map D.int++ [.int 0])]))=.ok (.fl (p.map D.int++ [.int 0])) G:=Cg (by have:=Ci (m:=G.length) (xs:=p++ [0]);simpa using this)
 have l1:(p.map D.int).length + 1<=1000000:=by simp [b.lp];lia
 have i1:inR (n:Int):=⟨by lia,by lia⟩;have cm:Df (gV 0) Cd Wy [none,some (.fl (s.map D.int)),some (.fl (p.map D.int++ [.int 0]))] (Bf 0 n) G=.ok (((List.range n).map λk=>Aa s k * Aa p k).map D.int) G:=by
  rw [ZAd (F:=λk=>.int (Aa s k * Aa p k)),List.map_map]
  ·rfl
  ·intro k hk;have e1:=Jk (xs:=s) (i:=k) (by rw [ok.sl];exact hk);have e2:=Zf (xs:=p) (i:=k) (by rw [b.lp];lia);have bp: -1000000000<=Aa p k/\Aa p k<=1000000000:=by
    have hi:k < p.length:=by rw [b.lp];exact hk
    rw [Gh hi];exact b.pb _ (List.getElem_mem hi)
   have mu:∀H:DH,Bo (.int (Aa s k)) (.int (Aa p k)) H=.ok (.int (Aa s k * Aa p k)) H:=λH=>Lp (by lia) (by lia)
   generalize p.map D.int++ [.int 0]=P at *;generalize s.map D.int=S at *;unfold Wy;simp [e1,e2,mu]
 have cp:∀x5 x6 x7 x8 x9 x10:Option D,Bh 1 [2,4] [some (.int (n:Int)),some (.fl (as.map encA)),some (.fl (s.map D.int)),some (.fl (p.map D.int)),some (.fl (p.map D.int++ [.int 0])),x5,x6,x7,x8,x9,x10]= [none,some (.fl (s.map D.int)),some (.fl (p.map D.int++ [.int 0]))]:=λ_ _ _ _ _ _=>rfl
 have lx:(((List.range n).map λk=>Aa s k * Aa p k).map D.int).length<=1000000:=by simp;lia
 have fx:freeze G (.ok (.ref G.length) (G++ [.lst (((List.range n).map λk=>Aa s k * Aa p k).map D.int)]))=.ok (.fl (((List.range n).map λk=>Aa s k * Aa p k).map D.int)) G:=Cg Ci;have sm:Gw [.fl (((List.range n).map λk=>Aa s k * Aa p k).map D.int)] G=.ok (.int (Ag n λu=>Aa s u * Aa p u)) G:=by rw [<-T9];exact Ys
 obtain ⟨y6,y7,y8,y9,y10,hL⟩:=ZBB b.lp b.pb (s0:=some (.int (n:Int))) (s1:=some (.fl (as.map encA))) (s2:=some (.fl (s.map D.int))) (s3:=some (.fl (p.map D.int))) (G:=G) as (Ag n λu=>Aa s u * Aa p u) none none none none none (λa ha=>⟨ok.arc a ha,λhm=>by obtain ⟨i,hi,rfl⟩:=List.mem_iff_getElem.mp ha;have:=ZBP b.sl hi (by rw [Ig hi];exact hm);rw [Ig hi] at this;exact this⟩)
 rw [ZKh,ZDl ok b] at hL;generalize ((List.range n).map λk=>Aa s k * Aa p k).map D.int=X at *;have aP:∀H:DH,Ay (.fl (p.map D.int)) (.fl [.int 0]) H=.ok (.ref H.length) (H++ [.lst (p.map D.int++ [.int 0])]):=λH=>by rw [Ku,if_pos (by simpa using l1)]
 generalize p.map D.int++ [.int 0]=P at *;generalize p.map D.int=P0 at *;generalize s.map D.int=S at *;generalize as.map encA=A at *;unfold Up Vi;rw [Ck];simp [-Ku,Ar,f3,aP,f4,i1,cm,cp,lx,fx,sm,hL,Dr]
theorem ZIR (cell k:Int) {h:Int} (hk:0<=k/\k < 1000) (hh:0<=h):∃g,0<=g/\g<=h/\∀G:DH,Rz [.int cell,.int k,.int h] G=.ok (.int g) G:=by
 have h5:=Int.emod_nonneg cell (show (5:Int)≠0 by decide);obtain ⟨t,ht,e⟩:=Hl (cell + k * k) (10163 + 8 * (cell % 5)) (by lia) (show 0 < 4 by decide);have e':∀G,Di [.int (cell + k * k),.int (10163 + 8 * (cell % 5)),.int 4] G=.ok (.int (t:Int)) G:=e;have mu:∀H:DH,Bo (.int k) (.int k) H=.ok (.int (k * k)) H:=λH=>Lp (by lia) (by lia)
 refine ⟨if t=0 then h else if t=1 then h / 2 else min h ((t:Int) - 2),?_,?_,λG=> ?_⟩
 ·split
  ·exact hh
  ·split
   ·lia
   ·lia
 ·split
  ·lia
  ·split
   ·lia
   ·lia
 ·unfold Rz U4;rw [Ck];by_cases t0:t=0
  ·subst t0;simp [mu,e',Dr]
  ·have t0':¬(t:Int)=0:=by lia
   by_cases t1:t=1
   ·subst t1;simp [mu,e',Dr]
   ·have t1':¬(t:Int)=1:=by lia
    simp [mu,e',t0,t0',t1,t1',Dr]
noncomputable def goR (a:Arc) (g:Int) (h:List Int):List Int:=Cw (Cw h a.fr (Aa h a.fr - g)) a.to (Aa (Cw h a.fr (Aa h a.fr - g)) a.to + g)
theorem ZF1 {a:Arc} {g:Int} :(goR a g h).length=h.length:=by rw [goR,Lb,Lb]
theorem ZJO {a:Arc} {g:Int} (A:ArcOk n a) (hl:h.length=n + 1) (h0:0<=g) (h1:g<=Aa h a.fr) (hh:∀u,0<=Aa h u):∀u,0<=Aa (goR a g h) u:=λu=>by
 have:=A.lt;have:=A.le;have:=A.up;have h2:=hh u;have h3:=hh a.to;unfold goR;rw [Kg (by rw [Lb];lia),Kg (by lia),Kg (by lia)];split
 ·split <;> lia
 ·split <;> lia
theorem ZEw {a:Arc} {g:Int} (hp:p n=0) (A:ArcOk n a) (hl:h.length=n + 1) (hv:a.fr=v):wN n v p (Aa (goR a g h)) + g * a.ga=wN n v p (Aa h) + g * red a p:=by have:=A.lt;have:=A.le;have:=A.up;unfold goR red;rw [Yi hp (by rw [Lb];exact hl) (by lia) (by lia),Yi hp hl (by lia) (by lia)];generalize Aa (Cw h a.fr (Aa h a.fr - g)) a.to=y;generalize wN n v p (Aa h)=W;generalize Aa h a.fr=x;rw [show x - g - x= -g by lia,show y + g - y=g by lia,Int.mul_neg,Int.mul_sub,Int.mul_add,Int.mul_comm g (p a.to),Int.mul_comm g (p a.fr)];lia
theorem ZIA {a:Arc} {cell t:Int} {l:D} {x9 x10 x11 x12 x13:Option D} (ok:ArcOk n a) (hk:k < 1000) (hl:h.length=n + 1) (hh:∀u,0<=Aa h u) (ea:atI A (k:Int)=some (encA a)):
  ∃(g:Int) (y13:Option D),0<=g/\g<=Aa h a.fr/\(∀b,a.mo=some b->0<=b->g<=b)/\
  M9 [s0,some (.fl A),s2,some (.int cell),some (.ref H.length),some (.int t),some (.int v),some l,some (.int k),x9,x10,x11,x12,x13] (H++ [.lst (h.map D.int)])=
   .nx [s0,some (.fl A),s2,some (.int cell),some (.ref H.length),some (.int (if a.fr=v then t + g * a.ga else t)),some (.int v),some (if a.fr=v/\a.mo=none then .int k else l),some (.int k),some (.int a.fr),some (.int a.to),some (moD a.mo),some (.int a.ga),y13] (H++ [.lst ((if a.fr=v then goR a g h else h).map D.int)]):=by
 have e1:encA a=.tup [.int a.fr,.int a.to,moD a.mo,.int a.ga]:=rfl;rw [e1] at ea;by_cases hv:a.fr=v
 ·subst hv
  obtain ⟨x,hx⟩:∃x:Int,x=(match a.mo with | none=>Aa h a.fr | some b=>min b (Aa h a.fr)):=⟨_,rfl⟩
  have hmo:=ok.mo;have hx0:0<=x/\x<=Aa h a.fr/\∀b,a.mo=some b->x<=b:=by
   have:=hh a.fr;cases hm:a.mo with
   | none=>
    rw [hm] at hx;have hx:x=Aa h a.fr:=hx;exact ⟨by lia,by lia,λb hb=>by cases hb⟩
   | some b=>
    rw [hm] at hx;have hx:x=min b (Aa h a.fr):=hx;have:=hmo b hm;exact ⟨by lia,by lia,λb' hb'=>by cases hb';lia⟩
  obtain ⟨g,g0,g1,eg⟩:=ZIR cell (k:Int) (h:=x) ⟨by lia,by lia⟩ hx0.1;refine ⟨g,some (.int g),g0,by lia,λb hb _=>by have:=hx0.2.2 b hb;lia,?_⟩;rw [if_pos rfl,if_pos rfl];have hlt:=ok.lt;have hle:=ok.le;have hga:=ok.ga;have r1:=Jk (xs:=h) (i:=a.fr) (by lia);have i1:ixN (n + 1) (a.fr:Int)=some a.fr:=Mx (by lia);have i2:ixN (n + 1) (a.to:Int)=some a.to:=Mx (by lia);have m1:(h.map D.int).set a.fr (.int (Aa h a.fr - g))=(Cw h a.fr (Aa h a.fr - g)).map D.int:=Xo
  have mu:∀H:DH,Bo (.int g) (.int a.ga) H=.ok (.int (g * a.ga)) H:=λH=>Lp (by lia) (by lia)
  unfold goR;have l1:(Cw h a.fr (Aa h a.fr - g)).length=n + 1:=by rw [Lb,hl]
  generalize Cw h a.fr (Aa h a.fr - g)=h1 at *;have r2:=Jk (xs:=h1) (i:=a.to) (by lia);have m2:(h1.map D.int).set a.to (.int (Aa h1 a.to + g))=(Cw h1 a.to (Aa h1 a.to + g)).map D.int:=Xo;generalize Cw h1 a.to (Aa h1 a.to + g)=h2 at *;have lZ:(h.map D.int).length=n + 1:=by simp [hl]
  have lZ1:(h1.map D.int).length=n + 1:=by simp [l1]
  generalize h.map D.int=Z at *;generalize h1.map D.int=Z1 at *;unfold M9;cases hm:a.mo with
  | none=>
   rw [hm] at hx ea;have hx:x=Aa h a.fr:=hx;rw [hx] at eg;simp [ea,moD,r1,eg,lZ,i1,m1,r2,lZ1,i2,m2,mu]
  | some b=>
   rw [hm] at hx ea;have hx:x=min b (Aa h a.fr):=hx;rw [hx] at eg;simp [ea,moD,r1,eg,lZ,i1,m1,r2,lZ1,i2,m2,mu]
 ·refine ⟨0,x13,by lia,hh _,λb _ h=>h,?_⟩;rw [if_neg hv,if_neg hv,if_neg (λz=>hv z.1)];have hv':¬(a.fr:Int)=(v:Int):=by lia
  generalize h.map D.int=Z at *;unfold M9;simp [ea,hv']
noncomputable def LastOk (as:List Arc) (v:Nat) (l:D):Prop:=∃j:Nat,l=.int j/\j < as.length/\(Af as j).fr=v/\(Af as j).mo=none
theorem ZCq {v:Nat} {p:Nat->Int} {cell:Int} {H:DH} {s0 s2:Option D} (hp:p n=0) (ok:∀x∈as,ArcOk n x) (hlen:as.length<=40) (hn:∀i,i < as.length->(Af as i).mo=none->red (Af as i) p<=0):∀(m k:Nat) (h:List Int) (t:Int) (l:D) (x8 x9 x10 x11 x12 x13:Option D),k + m=as.length->h.length=n + 1->(∀u,0<=Aa h u)->∃(h':List Int) (t':Int) (l':D) (y8 y9 y10 y11 y12 y13:Option D),h'.length=n + 1/\(∀u,0<=Aa h' u)/\
  t' + wN n v p (Aa h') + Bj (Af as) k (λi=>Cv (Af as i) p) v<=t + wN n v p (Aa h) + Bj (Af as) as.length (λi=>Cv (Af as i) p) v/\
  (LastOk as v l'∨(l'=l/\∀i,k<=i->i < as.length->¬((Af as i).fr=v/\(Af as i).mo=none)))/\
  Bu (gV 8) M9 (Bf k m) [s0,some (.fl (as.map encA)),s2,some (.int cell),some (.ref H.length),some (.int t),some (.int v),some l,x8,x9,x10,x11,x12,x13] (H++ [.lst (h.map D.int)])=
   .nx [s0,some (.fl (as.map encA)),s2,some (.int cell),some (.ref H.length),some (.int t'),some (.int v),some l',y8,y9,y10,y11,y12,y13] (H++ [.lst (h'.map D.int)])
 | 0,k,h,t,l,x8,x9,x10,x11,x12,x13,hk,hl,hh=>⟨h,t,l,x8,x9,x10,x11,x12,x13,hl,hh,(by rw [show k=as.length by lia];lia),.inr ⟨rfl,λi h1 h2=>by lia⟩,by rw [Lw,Jf]⟩
 | m + 1,k,h,t,l,x8,x9,x10,x11,x12,x13,hk,hl,hh=>by
  have hi:k < as.length:=by lia
  have A:=ArcOk.of ok hi;obtain ⟨g,y13,g0,g1,g2,hb⟩:=ZIA (v:=v) (cell:=cell) (t:=t) (l:=l) (H:=H) (s0:=s0) (s2:=s2) (x9:=x9) (x10:=x10) (x11:=x11) (x12:=x12) (x13:=x13) A (show k < 1000 by lia) hl hh (ZCp hi);obtain ⟨h',t',l',z8,z9,z10,z11,z12,z13,e1,e2,e3,e4,hL⟩:=ZCq hp ok hlen hn (v:=v) (cell:=cell) (H:=H) (s0:=s0) (s2:=s2) m (k + 1) (if (Af as k).fr=v then goR (Af as k) g h else h) (if (Af as k).fr=v then t + g * (Af as k).ga else t) (if (Af as k).fr=v/\(Af as k).mo=none then .int k else l) (some (.int k)) (some (.int (Af as k).fr)) (some (.int (Af as k).to)) (some (moD (Af as k).mo)) (some (.int (Af as k).ga)) y13 (by lia) (by
    split
    ·rw [ZF1,hl]
    ·exact hl) (by
    split
    ·exact ZJO A hl g0 g1 hh
    ·exact hh)
  refine ⟨h',t',l',z8,z9,z10,z11,z12,z13,e1,e2,?_,?_,?_⟩
  ·have eo:Bj (Af as) (k + 1) (λi=>Cv (Af as i) p) v=Bj (Af as) k (λi=>Cv (Af as i) p) v + (if (Af as k).fr=v then Cv (Af as k) p else 0):=rfl;rw [eo] at e3;by_cases hv:(Af as k).fr=v
   ·rw [if_pos hv,if_pos hv,if_pos hv] at e3;have h1:=ZEw (g:=g) hp A hl hv;have h2:=ZHD (p:=p) g0 (λb hb=>g2 b hb (A.mo b hb)) (hn k hi);lia
   ·rw [if_neg hv,if_neg hv,if_neg hv] at e3;lia
  ·rcases e4 with e4 | ⟨e4,e5⟩
   ·exact .inl e4
   ·by_cases hv:(Af as k).fr=v/\(Af as k).mo=none
    ·rw [if_pos hv] at e4;exact .inl ⟨k,e4,hi,hv⟩
    ·rw [if_neg hv] at e4;refine .inr ⟨e4,λi h1 h2=> ?_⟩;by_cases e:i=k
     ·subst e;exact hv
     ·exact e5 i (by lia) h2
  ·rw [Jw,H8];simp only [Fj,R.Dp,List.set,hb,Ef];have e1:((k:Int) + 1)=((k + 1:Nat):Int):=by lia
   rw [e1];exact hL
theorem ZFa {cell t:Int} {x7 x8 x9 x10 x11 x12 x13:Option D} (hp:p n=0) (ok:NetOk n as s) (hn:∀i,i < as.length->(Af as i).mo=none->red (Af as i) p<=0) (hv:v < n) (hl:h.length=n + 1) (hh:∀u,0<=Aa h u):
  ∃(h':List Int) (t':Int) (y7 y8 y9 y10 y11 y12 y13:Option D),h'.length=n + 1/\(∀u,0<=Aa h' u)/\
  t' + wN n (v + 1) p (Aa h')<=t + wN n v p (Aa h) + Bj (Af as) as.length (λi=>Cv (Af as i) p) v/\
  Q6 [s0,some (.fl (as.map encA)),s2,some (.int cell),some (.ref H.length),some (.int t),some (.int v),x7,x8,x9,x10,x11,x12,x13] (H++ [.lst (h.map D.int)])=
   .nx [s0,some (.fl (as.map encA)),s2,some (.int cell),some (.ref H.length),some (.int t'),some (.int v),y7,y8,y9,y10,y11,y12,y13] (H++ [.lst (h'.map D.int)]):=by
 have okl:=ok.len;obtain ⟨h1,t1,l1,y8,y9,y10,y11,y12,y13,e1,e2,e3,e4,hL⟩:=ZCq (v:=v) (cell:=cell) (H:=H) (s0:=s0) (s2:=s2) hp ok.arc ok.len hn as.length 0 h t (.int 0) x8 x9 x10 x11 x12 x13 (by lia) hl hh;have e3:t1 + wN n v p (Aa h1) + 0<=t + wN n v p (Aa h) + Bj (Af as) as.length (λi=>Cv (Af as i) p) v:=e3;obtain ⟨j,rfl,hj,jf,jm⟩:LastOk as v l1:=by
  rcases e4 with e4 | ⟨_,e5⟩
  ·exact e4
  ·obtain ⟨x,hx,hf,hm⟩:=ok.way v hv;obtain ⟨i,hi,rfl⟩:=List.mem_iff_getElem.mp hx;exact absurd ⟨by rw [Ig hi];exact hf,by rw [Ig hi];exact hm⟩ (e5 i (by lia) hi)
 have A:=ArcOk.of ok.arc hj;have hr:=hn j hj jm;have ea:=ZCp hj;have up:=A.up;have le:=A.le;have ga:=A.ga;have eE:encA (Af as j)=.tup [.int (Af as j).fr,.int (Af as j).to,moD (Af as j).mo,.int (Af as j).ga]:=rfl;rw [eE] at ea;have hnv:=e2 v;have hat:Aa (Cw h1 (Af as j).to (Aa h1 (Af as j).to + Aa h1 v)) v=Aa h1 v:=by rw [Kg (by lia),if_neg (by lia)]
 refine ⟨Cw h1 (Af as j).to (Aa h1 (Af as j).to + Aa h1 v),t1 + Aa h1 v * (Af as j).ga,some (.int j),y8,y9,y10,y11,y12,y13,by rw [Lb,e1],λu=> ?_,?_,?_⟩
 ·rw [Kg (by lia)];have h3:=e2 u;have h4:=e2 (Af as j).to
  split <;> lia
 ·have w1:=Yi (p:=p) (h:=h1) (v:=v) (w:=(Af as j).to) (x:=Aa h1 (Af as j).to + Aa h1 v) hp e1 (by lia) le;have w2:=ZGb (p:=p) (h:=Aa (Cw h1 (Af as j).to (Aa h1 (Af as j).to + Aa h1 v))) hv;rw [hat] at w2;have w3:=Int.mul_nonpos_of_nonneg_of_nonpos hnv hr;unfold red at w3;rw [jf,Int.mul_sub,Int.mul_add,Int.mul_comm (Aa h1 v) (p (Af as j).to),Int.mul_comm (Aa h1 v) (p v)] at w3;rw [show Aa h1 (Af as j).to + Aa h1 v - Aa h1 (Af as j).to=Aa h1 v by lia] at w1
  lia
 ·have i0:inR (as.length:Int):=⟨by lia,by lia⟩;have la:(as.map encA).length=as.length:=by simp
  have r1:=Jk (xs:=h1) (i:=(Af as j).to) (by lia);have r2:=Jk (xs:=h1) (i:=v) (by lia);have r3:=Jk (xs:=Cw h1 (Af as j).to (Aa h1 (Af as j).to + Aa h1 v)) (i:=v) (by rw [Lb];lia);rw [hat] at r3;have i2:ixN (n + 1) ((Af as j).to:Int)=some (Af as j).to:=Mx (by lia);have m2:(h1.map D.int).set (Af as j).to (.int (Aa h1 (Af as j).to + Aa h1 v))=(Cw h1 (Af as j).to (Aa h1 (Af as j).to + Aa h1 v)).map D.int:=Xo
  have mu:∀H:DH,Bo (.int (Aa h1 v)) (.int (Af as j).ga) H=.ok (.int (Aa h1 v * (Af as j).ga)) H:=λH=>Lp (by lia) (by lia)
  have hL':Bu (gV 8) M9 (Bf 0 as.length) [s0,some (.fl (as.map encA)),s2,some (.int cell),some (.ref H.length),some (.int t),some (.int v),some (.int 0),x8,x9,x10,x11,x12,x13] (H++ [.lst (h.map D.int)])=.nx [s0,some (.fl (as.map encA)),s2,some (.int cell),some (.ref H.length),some (.int t1),some (.int v),some (.int j),y8,y9,y10,y11,y12,y13] (H++ [.lst (h1.map D.int)]):=hL;have lZ:(h1.map D.int).length=n + 1:=by simp [e1]
  clear hL e4;generalize (Cw h1 (Af as j).to (Aa h1 (Af as j).to + Aa h1 v)).map D.int=Z2 at *;generalize h1.map D.int=Z1 at *;generalize h.map D.int=Z at *;generalize as.map encA=A1 at *;unfold Q6;simp [la,i0,hL',ea,r1,r2,lZ,i2,m2,r3,mu]
theorem ZBg {cell:Int} {H:DH} {s0 s2:Option D} (hp:p n=0) (ok:NetOk n as s) (hn:∀i,i < as.length->(Af as i).mo=none->red (Af as i) p<=0):∀(m v:Nat) (h:List Int) (t:Int) (x6 x7 x8 x9 x10 x11 x12 x13:Option D),v + m=n->h.length=n + 1->(∀u,0<=Aa h u)->∃(h':List Int) (t':Int) (y6 y7 y8 y9 y10 y11 y12 y13:Option D),
  t' + Ag v (λu=>Bj (Af as) as.length (λi=>Cv (Af as i) p) u)<=t + wN n v p (Aa h) + Ag n (λu=>Bj (Af as) as.length (λi=>Cv (Af as i) p) u)/\
  Bu (gV 6) Q6 (Bf v m) [s0,some (.fl (as.map encA)),s2,some (.int cell),some (.ref H.length),some (.int t),x6,x7,x8,x9,x10,x11,x12,x13] (H++ [.lst (h.map D.int)])=
   .nx [s0,some (.fl (as.map encA)),s2,some (.int cell),some (.ref H.length),some (.int t'),y6,y7,y8,y9,y10,y11,y12,y13] (H++ [.lst (h'.map D.int)])
 | 0,v,h,t,x6,x7,x8,x9,x10,x11,x12,x13,hk,hl,hh=>⟨h,t,x6,x7,x8,x9,x10,x11,x12,x13,(by rw [show v=n by lia,ZIK];lia),by rw [Lw,Jf]⟩
 | m + 1,v,h,t,x6,x7,x8,x9,x10,x11,x12,x13,hk,hl,hh=>by
  obtain ⟨h1,t1,y7,y8,y9,y10,y11,y12,y13,e1,e2,e3,hb⟩:=ZFa (v:=v) (cell:=cell) (t:=t) (H:=H) (s0:=s0) (s2:=s2) (x7:=x7) (x8:=x8) (x9:=x9) (x10:=x10) (x11:=x11) (x12:=x12) (x13:=x13) hp ok hn (by lia) hl hh;obtain ⟨h',t',z6,z7,z8,z9,z10,z11,z12,z13,e4,hL⟩:=ZBg hp ok hn (cell:=cell) (H:=H) (s0:=s0) (s2:=s2) m (v + 1) h1 t1 (some (.int v)) y7 y8 y9 y10 y11 y12 y13 (by lia) e1 e2;refine ⟨h',t',z6,z7,z8,z9,z10,z11,z12,z13,?_,?_⟩
  ·have eo:Ag (v + 1) (λu=>Bj (Af as) as.length (λi=>Cv (Af as i) p) u)=Ag v (λu=>Bj (Af as) as.length (λi=>Cv (Af as i) p) u) + Bj (Af as) as.length (λi=>Cv (Af as i) p) v:=rfl;rw [eo] at e4;lia
  ·rw [Jw,H8];simp only [Fj,R.Dp,List.set,hb,Ef];have e1:((v:Int) + 1)=((v + 1:Nat):Int):=by lia
   rw [e1];exact hL
theorem ZKt {f p:List Int} (ok:NetOk n as s) (b:BestOk n as s e f p) (cell:Int) (H:DH):∃t,t<=e/\Uq [.int n,.fl (as.map encA),.fl (s.map D.int),.int cell] H=.ok (.int t) H:=by
 have okn:=ok.n2;have s1:∀u,0<=Aa (s++ [0]) u:=λu=>by
  by_cases hu:u < (s++ [0]).length
  ·rw [Gh hu];rcases List.mem_append.mp (List.getElem_mem hu) with h | h
   ·exact ok.sn _ h
   ·rw [List.mem_singleton.mp h]
    decide
  ·unfold Aa;rw [List.getD_eq_getElem?_getD,List.getElem?_eq_none (by lia)]
   decide
 obtain ⟨h',t',y6,y7,y8,y9,y10,y11,y12,y13,e1,hL⟩:=ZBg (cell:=cell) (H:=H) (s0:=some (.int (n:Int))) (s2:=some (.fl (s.map D.int))) b.p0 ok (λi hi hm=>ZBP b.sl hi hm) n 0 (s++ [0]) 0 none none none none none none none none (by lia) (by simp [ok.sl]) s1;refine ⟨t',?_,?_⟩
 ·have e2:=ZDl ok b;have e3:=ZFy (n:=n) (as:=as) (c:=λi=>Cv (Af as i) (Aa p)) λi hi=>(ArcOk.of ok.arc hi).lt
  have e4:wN n 0 (Aa p) (Aa (s++ [0]))=Ag n λu=>Aa s u * Aa p u:=by
   rw [ZGY];refine Cu λu hu=> ?_
   have:Aa (s++ [0]) u=Aa s u:=by unfold Aa;rw [List.getD_eq_getElem?_getD,List.getD_eq_getElem?_getD,List.getElem?_append_left (by rw [ok.sl];exact hu)]
   rw [this,Int.mul_comm]
  have e1:t' + 0<=0 + wN n 0 (Aa p) (Aa (s++ [0])) + Ag n (λu=>Bj (Af as) as.length (λi=>Cv (Af as i) (Aa p)) u):=e1;lia
 ·have f1:freeze H (.ok (.ref H.length) (H++ [.lst (s.map D.int)]))=.ok (.fl (s.map D.int)) H:=Cg Ci;have f2:freeze H (.ok (.ref H.length) (H++ [.lst [.int 0]]))=.ok (.fl [.int 0]) H:=Cg rfl;have em:(s++ [0]).map D.int=s.map D.int++ [.int 0]:=by simp
  have aS:Ay (.fl (s.map D.int)) (.fl [.int 0]) H=.ok (.ref H.length) (H++ [.lst ((s++ [0]).map D.int)]):=by rw [Ku,if_pos (by simp [ok.sl];lia),em]
  have tn:tidy H (.ok (.ref H.length) (H++ [.lst ((s++ [0]).map D.int)]))=.ok (.ref H.length) (H++ [.lst ((s++ [0]).map D.int)]):=Hz Ci;have i1:inR (n:Int):=⟨by lia,by lia⟩;have lS:(s.map D.int).length<=1000000:=by simp [ok.sl];lia
  have td:tidy H (.ok (.int t') (H++ [.lst (h'.map D.int)]))=.ok (.int t') H:=by unfold tidy;simp
  have hL':Bu (gV 6) Q6 (Bf 0 n) [some (.int (n:Int)),some (.fl (as.map encA)),some (.fl (s.map D.int)),some (.int cell),some (.ref H.length),some (.int 0),none,none,none,none,none,none,none,none] (H++ [.lst ((s++ [0]).map D.int)])=
   .nx [some (.int (n:Int)),some (.fl (as.map encA)),some (.fl (s.map D.int)),some (.int cell),some (.ref H.length),some (.int t'),y6,y7,y8,y9,y10,y11,y12,y13] (H++ [.lst (h'.map D.int)]):=hL
  clear em hL;generalize (s++ [0]).map D.int=S1 at *;generalize s.map D.int=S at *;generalize as.map encA=A at *;generalize h'.map D.int=Z at *;unfold Uq U8;rw [Ck];simp [-Ku,Ar,f1,f2,aS,tn,i1,lS,hL',td]
theorem ZLX {lo hi:Option Int}:cutD (xs.map D.int) lo hi=(cutD xs lo hi).map D.int:=by unfold cutD;rw [List.length_map,List.map_take,List.map_drop]
theorem ZBz {f p:List Int} {F P:D} {H:DH} {s0:Option D} (ok:NetOk n as s) (b:BestOk n as s e f p):∀(zs:List Int) (x6 x7:Option D),∃y6 y7,
  Bu (gV 6) Wi (zs.map D.int) [s0,some (.int n),some (.fl (as.map encA)),some (.fl (s.map D.int)),some (.tup [.int e,F,P]),some (.int e),x6,x7] H=
   .nx [s0,some (.int n),some (.fl (as.map encA)),some (.fl (s.map D.int)),some (.tup [.int e,F,P]),some (.int e),y6,y7] H
 | [],x6,x7=>⟨x6,x7,by rw [List.map_nil,Jf]⟩
 | z::zs,x6,x7=>by
  obtain ⟨t,ht,et⟩:=ZKt ok b z H;obtain ⟨y6,y7,hL⟩:=ZBz ok b (F:=F) (P:=P) (H:=H) (s0:=s0) zs (some (.int z)) (some (.int t));refine ⟨y6,y7,?_⟩;have ht':¬e < t:=by lia
  have fz:freeze H (.ok (.int t) H)=.ok (.int t) H:=ZA9 rfl;have hb:Wi [s0,some (.int n),some (.fl (as.map encA)),some (.fl (s.map D.int)),some (.tup [.int e,F,P]),some (.int e),some (.int z),x7] H=
    .nx [s0,some (.int n),some (.fl (as.map encA)),some (.fl (s.map D.int)),some (.tup [.int e,F,P]),some (.int e),some (.int z),some (.int t)] H:=by
   unfold Wi;simp [et,fz,ht']
  rw [List.map_cons,H8];simp only [Fj,R.Dp,List.set,hb,Ef];exact hL
theorem ZG5 (ok:NetOk n as s) (G:DH) (hT:DO.tab "Sending" "send_by"∈G):∃e f p,BestOk n as s e f p/\freeze G (Ny [.int n,.fl (as.map encA),.fl (s.map D.int)] G)=.ok (.tup [.int e,.fl (f.map D.int),.fl (p.map D.int)]) G:=by obtain ⟨e,f,p,b,h⟩:=ZJL ok G hT;refine ⟨e,f,p,b,?_⟩;rw [h];exact ZA9 (by show (true && (bels _ _ && (bels _ _ && true)))=true;rw [Ci,Ci];rfl)
theorem law65 (ns:List Int) (G:DH) (hT:DO.tab "Sending" "send_by"∈G):Jy [.fl (ns.map D.int)] G=.ok (.bl true) G:=by
 obtain ⟨n,as,s,ok,ok39,hn⟩:=ZHf ns G;obtain ⟨e,f,p,bo,hb⟩:=ZG5 ok G hT;have okl:=ok.len;have okn:=ok.n2;have sh:=ZFt (n:=n) (e:=e) (f:=f) (p:=p) (A:=as.map encA) (by simp [bo.lf]) bo.lp (by simp;lia) (by lia) G;have cb:=ZH1 ok bo G;have fA:freeze G (.ok (.ref G.length) (G++ [.lst (as.map encA)]))=.ok (.fl (as.map encA)) G:=Cg Nx;have fS:freeze G (.ok (.ref G.length) (G++ [.lst (s.map D.int)]))=.ok (.fl (s.map D.int)) G:=Cg Ci
 have fC:∀hi,freeze G (.ok (.ref G.length) (G++ [.lst (cutD (ns.map D.int) (some 26) hi)]))=.ok (.fl ((cutD ns (some 26) hi).map D.int)) G:=λhi=>by rw [ZLX];exact Cg Ci
 have oL:=λzs=>ZBz (F:=.fl (f.map D.int)) (P:=.fl (p.map D.int)) (H:=G) (s0:=some (.fl (ns.map D.int))) ok bo zs none none
 have lA:(as.map encA).length<=1000000:=by simp;lia
 have lS:(s.map D.int).length<=1000000:=by simp [ok.sl];lia
 by_cases h10:(10:Int) < (n:Int)
 ·have fc:=fC (some (42 - 12 * 1));obtain ⟨y6,y7,hL⟩:=oL (cutD ns (some 26) (some (42 - 12 * 1)));generalize (cutD ns (some 26) (some (42 - 12 * 1))).map D.int=Z at *;generalize ns.map D.int=N at *;generalize as.map encA=A at *;generalize s.map D.int=S at *;generalize p.map D.int=P at *;generalize f.map D.int=F at *;unfold Jy Rj;rw [Ck];simp at fc;simp [hn,fA,fS,hb,sh,cb,h10,fc,hL,lA,lS,Dr]
 ·have fc:=fC (some 42);obtain ⟨y6,y7,hL⟩:=oL (cutD ns (some 26) (some 42));generalize (cutD ns (some 26) (some 42)).map D.int=Z at *;generalize ns.map D.int=N at *;generalize as.map encA=A at *;generalize s.map D.int=S at *;generalize p.map D.int=P at *;generalize f.map D.int=F at *;unfold Jy Rj;rw [Ck];simp [hn,fA,fS,hb,sh,cb,h10,fc,hL,lA,lS,Dr]
theorem holds:Holds:=λns _=>⟨_,law65 ns _ (by simp)⟩
end Law
namespace Law
open PySem L2 DL
seal QE QT QA QS QSs QG QGs QI QTs QW QO
structure Adr where
 Nk:Addr
 Qx:FuncData
 Pn:Addr
 W8:FuncData
 O8:Addr
 Sy:FuncData
 Pu:Addr
 Sd:FuncData
 Ql:Addr
 Qz:FuncData
 Nt:Addr
 Rc:FuncData
 Oa:Addr
 Tj:FuncData
 Qg:Addr
 Uc:FuncData
 Nj:Addr
 Rf:FuncData
 Ow:Addr
 Rb:FuncData
 Q0:Addr
 Vg:FuncData
 R3:Addr
 Va:FuncData
 Oq:Addr
 Rm:FuncData
 R4:Addr
 Rg:FuncData
 Vc:Addr
 Vt:FuncData
 S9:Addr
 Ul:FuncData
 T6:Addr
 W6:FuncData
 Ry:Addr
 Vd:FuncData
 Vz:Addr
 Ri:FuncData
 Wr:Addr
 ZAC:FuncData
 Nh:Addr
 Vl:FuncData
 Qf:Addr
 Ud:FuncData
 M6:Addr
 Qj:FuncData
 ZIO:Tok
 ZEd:Tok
 ZEx:Tok
 ZGm:Tok
 Dn:Addr
structure Txt (K:PySem.W.Frag) (mg:Str->Option Value) (base:Heap) (t:Adr):Prop where
 Tu:Fun K "_law_bound" "_law_bound" Uo t.Nk t.Qx
 Vi:Binds K t.Qx ["_law_many","_law_arcs","_law_supplies","_law_told"] []
 ZAb:mg "_law_bound"=some (.ref t.Nk)
 ZAZ:PySem.W.keepIn K (.ref t.Nk)=true
 Sv:Fun K "_law_mix" "_law_mix" Zn t.Pn t.W8
 Fg:Binds K t.W8 ["_law_cell","_law_prime","_law_many"] []
 Fy:mg "_law_mix"=some (.ref t.Pn)
 G8:PySem.W.keepIn K (.ref t.Pn)=true
 Te:Fun K "_law_amount" "_law_amount" Xa t.O8 t.Sy
 Mm:Binds K t.Sy ["_law_cell","_law_kind","_law_scale"] []
 Qt:mg "_law_amount"=some (.ref t.O8)
 Tw:PySem.W.keepIn K (.ref t.O8)=true
 Vm:Fun K "_law_cell_at" "_law_cell_at" Zw t.Pu t.Sd
 Jt:Binds K t.Sd ["_law_script","_law_k"] []
 Ln:mg "_law_cell_at"=some (.ref t.Pu)
 Kz:PySem.W.keepIn K (.ref t.Pu)=true
 Vy:Fun K "_law_take" "_law_take" ZAc t.Ql t.Qz
 Fi:Binds K t.Qz ["_law_pool","_law_many"] []
 G9:mg "_law_take"=some (.ref t.Ql)
 Gf:PySem.W.keepIn K (.ref t.Ql)=true
 Tr:Fun K "_law_read_net" "_law_read_net" Vq t.Nt t.Rc
 Vk:Binds K t.Rc ["_law_pool"] []
 ZAD:mg "_law_read_net"=some (.ref t.Nt)
 Xe:PySem.W.keepIn K (.ref t.Nt)=true
 Uh:Fun K "_law_net" "_law_net" Ot t.Oa t.Tj
 O7:Binds K t.Tj ["_law_script"] []
 Yo:mg "_law_net"=some (.ref t.Oa)
 Ye:PySem.W.keepIn K (.ref t.Oa)=true
 Ur:Fun K "_law_part" "_law_part" Yw t.Qg t.Uc
 U4:Binds K t.Uc ["_law_cell","_law_k","_law_here"] []
 Yp:mg "_law_part"=some (.ref t.Qg)
 Yq:PySem.W.keepIn K (.ref t.Qg)=true
 Rr:Fun K "_law_other" "_law_other" Zk t.Nj t.Rf
 U8:Binds K t.Rf ["_law_many","_law_arcs","_law_supplies","_law_cell"] []
 Xi:mg "_law_other"=some (.ref t.Nj)
 Yn:PySem.W.keepIn K (.ref t.Nj)=true
 Ti:Fun K "_law_whole" "_law_whole" Zr t.Ow t.Rb
 O1:Binds K t.Rb ["_law_found"] []
 Vp:mg "_law_whole"=some (.ref t.Ow)
 Ua:PySem.W.keepIn K (.ref t.Ow)=true
 Rk:Fun K "_law_shaped" "_law_shaped" Wa t.Q0 t.Vg
 Tg:Binds K t.Vg ["_law_found","_law_many","_law_arcs"] []
 Yz:mg "_law_shaped"=some (.ref t.Q0)
 Wo:PySem.W.keepIn K (.ref t.Q0)=true
 V4:Fun K "add_link" "Sending.add_link" Zg t.R3 t.Va
 Om:Binds K t.Va ["self","node","end","gain","room"] []
 ZDs:Meth K t.Dn "add_link" t.R3
 S6:Fun K "__init__" "Sending.__init__" Vr t.Oq t.Rm
 Uj:Binds K t.Rm ["self","many","arcs","supplies"] []
 ZNJ:Meth K t.Dn "__init__" t.Oq
 Tf:Fun K "best_way" "Sending.best_way" Yx t.R4 t.Rg
 T5:Binds K t.Rg ["self","node","ways"] []
 ZEF:Meth K t.Dn "best_way" t.R4
 U7:Fun K "best_ways" "Sending.best_ways" Rv t.Vc t.Vt
 Pr:Binds K t.Vt ["self"] []
 ZAy:Meth K t.Dn "best_ways" t.Vc
 Wf:Fun K "flow_sent" "Sending.flow_sent" W0 t.S9 t.Ul
 Wg:Binds K t.Ul ["self"] []
 ZIv:Meth K t.Dn "flow_sent" t.S9
 Tt:Fun K "gain_of" "Sending.gain_of" Ym t.T6 t.W6
 V5:Binds K t.W6 ["self","way"] []
 ZEM:Meth K t.Dn "gain_of" t.T6
 S8:Fun K "links_of" "Sending.links_of" ZAQ t.Ry t.Vd
 W5:Binds K t.Vd ["self","way"] []
 ZHj:Meth K t.Dn "links_of" t.Ry
 Su:Fun K "send_along" "Sending.send_along" Xq t.Vz t.Ri
 Wh:Binds K t.Ri ["self","node","link","cubes"] []
 ZFI:Meth K t.Dn "send_along" t.Vz
 Pj:Fun K "send_by" "Sending.send_by" Ou t.Wr t.ZAC
 W4:Binds K t.ZAC ["self","ways"] []
 ZCY:Meth K t.Dn "send_by" t.Wr
 W9:Fun K "check_ways" "check_ways" Ro t.Nh t.Vl
 T7:Binds K t.Vl ["many","arcs"] []
 Xg:mg "check_ways"=some (.ref t.Nh)
 Xb:PySem.W.keepIn K (.ref t.Nh)=true
 Wc:Fun K "best" "best" Pg t.Qf t.Ud
 Ue:Binds K t.Ud ["many","arcs","supplies"] []
 ZAO:mg "best"=some (.ref t.Qf)
 Zh:PySem.W.keepIn K (.ref t.Qf)=true
 Qm:Fun K "law" "law" V2 t.M6 t.Qj
 Rj:Binds K t.Qj ["_law_script"] []
 U9:mg "law"=some (.ref t.M6)
 ZBX:PySem.W.keepIn K (.ref t.M6)=true
 Bd:PySem.W.nsIn K mainGlobals "Sending"=some (some (.ref t.Dn))
 Be:Cls K t.Dn
 ZIn:mg "Sending"=some (.ref t.Dn)
 Xr:Mk K t.Dn t.Oq
 Jm:NoAttr K t.Dn "ends"
 Im:NoAttr K t.Dn "left"
 Nf:NoAttr K t.Dn "links_from"
 J8:NoAttr K t.Dn "rooms"
 Nb:NoAttr K t.Dn "scale"
 Mg:NoAttr K t.Dn "worths"
 ZEs:mg "all"=none
 ZH5:mg "bool"=none
 ZEb:mg "enumerate"=none
 Yd:mg "int"=none
 Q8:mg "isinstance"=none
 Hc:mg "len"=none
 Mq:mg "list"=none
 ZH8:mg "max"=none
 Tz:mg "min"=none
 Gi:mg "range"=none
 ZI7:mg "sorted"=none
 Uz:mg "sum"=none
 ZHr:mg "tuple"=none
 ZFT:mg "zip"=none
 Qe:mg "FROM"=some (.int 0 t.ZIO)
 Nq:mg "GAIN"=some (.int 3 t.ZEd)
 Qd:mg "MOST"=some (.int 2 t.ZEx)
 Ug:mg "TO"=some (.int 1 t.ZGm)
 bm:BMd base mg
theorem ZLS {K:PySem.W.Frag} {C m x qual:Str} {Ca f c P:Addr} {st:Stmt} {fd:FuncData} (hN:PySem.W.nsIn K mainGlobals C=some (some (.ref Ca))) (hm:PySem.W.findIn K (.ref Ca) m=some (some (.ref f))) (F:Fun K x qual st f fd) (t:TabAt K C m c P):fd.code=.ref c:=by obtain ⟨Ca',f',oc,od,fd',sl,e1,e2,e3,e4,_⟩:=t;rw [hN] at e1;cases e1;rw [hm] at e2;cases e2;obtain ⟨oc2,od2,kV,doc,pm,an,cdv,ct,osl,e5,lk,_⟩:=F.ex;rw [lk] at e3;cases e3;exact e4
section
variable {P:Program} {w:World} {K:PySem.W.Frag} {mg:Str->Option Value} {base:Heap} {t:Adr}
theorem ZJA (T:Txt K mg base t):FnOk P w K mg base CX0 1 t.Nk t.Qx ["_law_many","_law_arcs","_law_supplies","_law_told"] (lF K Up):=by
 refine Dh T.Tu Iu λcdv A outer s H E hr=> ?_
 exact (Am (Av 4 Iu.nd (Bq (Al Bg (Ab 3) (Bq (Ek (Ae Ah Aj)))))) (Am (Av 5 Iu.nd (Cp (V8 rfl) rfl T.Uz R7 (Ae (Bq (Ju rfl (Gs (dn:=(Az Uo).names) (N0:=ZA0) (N:= ["_law_k","_law_supplies","_law_prices"]) (nt:=1) (caps:= [2,4])) (Hx rfl T.Gi (Ae (Ab 0) Aj)) (λC s₀ H₀ ex=>(Bm 0 (show (["_law_k","_law_supplies","_law_prices"]:List Str).Nodup by decide +kernel))) (Gb (by decide)) (λC s₀ H₀ ex=>Ir) (λC s₀ H₀ ex=>(Al Dw (Ax Aw (Ab 1) (Ab 0)) (Ax Aw (Ab 2) (Ab 0)))))) Aj))) (Am (Fv PassesOwn.never rfl (Gx (Ab 1)) (Qi rfl (Ex (Bm 6 Iu.nd) (Ex (Bm 7 Iu.nd) (Ex (Bm 8 Iu.nd) (Ex (Bm 9 Iu.nd) Qk))))) (Am (Av 10 Iu.nd (Al El (Al Bg (Ab 9) (Ax Aw (Ab 4) (Ab 7))) (Ax Aw (Ab 4) (Ab 6)))) (Aq (Cm (Bw Yv (Ab 8) Fw (nomark _)) (Aq (Av 5 Iu.nd (Al Bg (Ab 5) (Al Dw (Ab 8) (Cp (ZEc rfl) rfl T.ZH8 ZHF (Ae Ah (Ae (Ab 10) Aj))))))) (Aq (Cm (Bw Mw (Ab 10) Ah (nomark _)) (Aq (Bv Fw)) Cy)))))) (Aq (Bv (Ab 5))))))
theorem Hn (T:Txt K mg base t):FnOk P w K mg base CX0 1 t.Pn t.W8 ["_law_cell","_law_prime","_law_many"] (lF K Di):=by
 refine Dh T.Sv ZGi λcdv A outer s H E hr=> ?_
 exact (Aq (Bv (Al Eu (Al Eu (Al Dw (Ab 0) Ah) (Ab 1)) (Ab 2))))
theorem ZCT (T:Txt K mg base t):FnOk P w K mg base CX0 2 t.O8 t.Sy ["_law_cell","_law_kind","_law_scale"] (lF K Jj):=by
 refine Dh T.Te ZHH λcdv A outer s H E hr=> ?_
 exact (Am (Cm (Bw (Gr hr.units) (Ab 1) Ah (nomark _)) (Aq (Bv (Al Eu (Al Dw (Ab 0) Ah) (Al Bg (Al M3 Ah Ah) Ah)))) Cy) (Aq (Bv (Al Dw (Bk (Hn T) (hr.mono (by decide)) rfl T.Fy T.G8 T.Fg pass0 (Ae (Ab 0) (Ae Ah (Ae Ah Aj)))) (Ab 2)))))
theorem Og (T:Txt K mg base t):FnOk P w K mg base CX0 1 t.Pu t.Sd ["_law_script","_law_k"] (lF K Gu):=by
 refine Dh T.Vm ZIl λcdv A outer s H E hr=> ?_
 exact (Am (Cm (Bw V1 (Ab 1) (Cp Hm rfl T.Hc Ha (Ae (Ab 0) Aj)) (nomark _)) (Aq (Bv (Ax Aw (Ab 0) (Ab 1)))) Cy) (Aq (Bv Ah)))
theorem Hf (T:Txt K mg base t):FnOk P w K mg base CX0 1 t.Ql t.Qz ["_law_pool","_law_many"] (lF K Dj):=by
 refine Dh T.Vy ZDO λcdv A outer s H E hr=> ?_
 exact (Am (Av 2 ZDO.nd (Ax Aw (Ab 0) Ah)) (Am (Jh (Al Ji (Ab 2) (Ab 1)) (Ma (Ab 0) Ah)) (Aq (Bv (Al Eu (Ab 2) (Ab 1))))))
theorem ZId (T:Txt K mg base t):FnOk P w K mg base CX0 2 t.Nt t.Rc ["_law_pool"] (lF K U0):=by
 refine Dh T.Tr Ez λcdv A outer s H E hr=> ?_
 exact (Am (Av 1 Ez.nd (Al Bg Ah (Bk (Hf T) (hr.mono (by decide)) rfl T.G9 T.Gf T.Fi pass0 (Ae (Ab 0) (Ae Ah Aj))))) (Am (Av 2 Ez.nd (Ax Aw (Bq (Ek (Ae Ah (Ae Ah (Ae (Al Bg (Al M3 Ah Ah) Ah) (Ae (Al M3 Ah Ah) Aj)))))) (Bk (Hf T) (hr.mono (by decide)) rfl T.G9 T.Gf T.Fi pass0 (Ae (Ab 0) (Ae Ah Aj))))) (Am (Av 3 Ez.nd (Ey (Ek Aj))) (Am (Fv PassesOwn.never rfl (Hx rfl T.Gi (Ae (Ab 1) Aj)) (Bm 4 Ez.nd) (Am (Av 5 Ez.nd (Al Bg (Al Bg (Ab 4) Ah) (Bk (Hf T) (hr.mono (by decide)) rfl T.G9 T.Gf T.Fi pass0 (Ae (Ab 0) (Ae (Al El (Ab 1) (Ab 4)) Aj))))) (Aq (Hj (Mp PySem.F.slot_list_append PySem.F.type_list_append M7 (Ab 3) (Ae (Kr (Ae (Ab 4) (Ae (Ab 5) (Ae Fw (Ae (Al El (Bk (Hf T) (hr.mono (by decide)) rfl T.G9 T.Gf T.Fi pass0 (Ae (Ab 0) (Ae Ah Aj))) Ah) Aj))))) Aj)))))) (Am (Fv PassesOwn.never rfl (Hx rfl T.Gi (Ae (Bk (Hf T) (hr.mono (by decide)) rfl T.G9 T.Gf T.Fi pass0 (Ae (Ab 0) (Ae Ah Aj))) Aj)) (Bm 4 Ez.nd) (Am (Av 6 Ez.nd (Bk (Hf T) (hr.mono (by decide)) rfl T.G9 T.Gf T.Fi pass0 (Ae (Ab 0) (Ae (Ab 1) Aj)))) (Am (Av 5 Ez.nd (Al Bg (Al Bg (Ab 6) Ah) (Bk (Hf T) (hr.mono (by decide)) rfl T.G9 T.Gf T.Fi pass0 (Ae (Ab 0) (Ae (Al El (Ab 1) (Ab 6)) Aj))))) (Am (Av 7 Ez.nd (Al Dw (Bk (Hf T) (hr.mono (by decide)) rfl T.G9 T.Gf T.Fi pass0 (Ae (Ab 0) (Ae Ah Aj))) (Ab 2))) (Am (Cm (Bw (Gr hr.units) (Ab 7) (Al Dw Ah (Ab 2)) (nomark _)) (Aq (Av 7 Ez.nd Fw)) Cy) (Am (Av 8 Ez.nd (Kr (Ae (Ab 6) (Ae (Ab 5) (Ae (Ab 7) (Ae (Al El (Bk (Hf T) (hr.mono (by decide)) rfl T.G9 T.Gf T.Fi pass0 (Ae (Ab 0) (Ae Ah Aj))) Ah) Aj)))))) (Am (Av 9 Ez.nd (Bk (Hf T) (hr.mono (by decide)) rfl T.G9 T.Gf T.Fi pass0 (Ae (Ab 0) (Ae (Al Bg (Cp Hm rfl T.Hc Ha (Ae (Ab 3) Aj)) Ah) Aj)))) (Aq (Av 3 Ez.nd (Ey (Al Bg (Bq (Al Bg (Bq (Jp (Ab 3) Mz (I8 (Ab 9)))) (Bq (Ek (Ae (Ab 8) Aj))))) (Bq (Jp (Ab 3) (I8 (Ab 9)) Mz))))))))))))) (Am (ZAU 10 rfl Ez.nd (Gs (dn:=(Az Vq).names) (N0:=ZCD) (N:= ["_law_k","_law_pool","_law_scale"]) (nt:=1) (caps:= [0,2])) (Hx rfl T.Gi (Ae (Ab 1) Aj)) (λC s₀ H₀ ex=>(Bm 0 (show (["_law_k","_law_pool","_law_scale"]:List Str).Nodup by decide +kernel))) (Gb (by decide)) (λC s₀ H₀ ex=>Ir) (λC s₀ H₀ ex=>(Al Dw (Bk (Hf T) (hr.mono (by decide)) rfl T.G9 T.Gf T.Fi pass0 (Ae (Ab 1) (Ae Ah Aj))) (Ab 2)))) (Aq (Bv (Kr (Ae (Ab 1) (Ae (Ab 3) (Ae (Ab 10) Aj))))))))))))
theorem ZHL (T:Txt K mg base t):FnOk P w K mg base CX0 3 t.Oa t.Tj ["_law_script"] (lF K Kh):=by
 refine Dh T.Uh Dc λcdv A outer s H E hr=> ?_
 exact (Am (Av 1 Dc.nd (Bk (Og T) (hr.mono (by decide)) rfl T.Ln T.Kz T.Jt pass0 (Ae (Ab 0) (Ae Ah Aj)))) (Am (Cm (Km (ZEr o_le V1 Ah (Bk (Og T) (hr.mono (by decide)) rfl T.Ln T.Kz T.Jt pass0 (Ae (Ab 0) (Ae Ah Aj))) (Al M3 Ah Ah))) (Aq (Bv (Bk (ZId T) (hr.mono (by decide)) rfl T.ZAD T.Xe T.Vk pass0 (Ae (Ey (Ek (Ae (Bk (Og T) (hr.mono (by decide)) rfl T.Ln T.Kz T.Jt pass0 (Ae (Ab 0) (Ae Ah Aj))) Aj))) Aj)))) Cy) (Am (Av 2 Dc.nd (Al Eu (Ab 1) Ah)) (Am (Av 3 Dc.nd (Ax Aw (Bq (Ek (Ae Ah (Ae Ah (Ae (Al Bg (Al M3 Ah Ah) Ah) (Ae (Al M3 Ah Ah) Aj)))))) (Al Eu (Al Ji (Ab 1) Ah) Ah))) (Am (Av 4 Dc.nd (Al Bg Ah (Al Eu (Al Ji (Ab 1) Ah) Ah))) (Am (Cm (Bw (Gr hr.units) (Ab 2) Ah (nomark _)) (Aq (Av 4 Dc.nd (Al Bg Ah (Al Eu (Al Ji (Ab 1) Ah) Ah)))) Cy) (Am (Av 5 Dc.nd (ZAn (T4 V1 (Ab 2) Ah (nomark _)) (ZC4 (T4 (Gr hr.units) (Bk (Hn T) (hr.mono (by decide)) rfl T.Fy T.G8 T.Fg pass0 (Ae (Ab 1) (Ae Ah (Ae Ah Aj)))) Ah (nomark _))))) (Am (Cm (Jb (Ab 5)) (Aq (Av 4 Dc.nd (Al Bg Ah (Al Eu (Al Ji (Ab 1) Ah) Ah)))) Cy) (Am (Av 6 Dc.nd (Ax Aw (Bq (Ek (Ae Ah (Ae Ah (Ae Ah Aj))))) (Bk (Hn T) (hr.mono (by decide)) rfl T.Fy T.G8 T.Fg pass0 (Ae (Ab 1) (Ae Ah (Ae Ah Aj)))))) (Am (Av 7 Dc.nd (Ey (Ek Aj))) (Am (Fv PassesOwn.never rfl (Hx rfl T.Gi (Ae (Ab 4) Aj)) (Bm 8 Dc.nd) (Am (Av 9 Dc.nd (Bk (Og T) (hr.mono (by decide)) rfl T.Ln T.Kz T.Jt pass0 (Ae (Ab 0) (Ae (Al Bg Ah (Ab 8)) Aj)))) (Am (Av 10 Dc.nd (Al El (Ab 4) (Ab 8))) (Am (Cm (Jb (Ab 5)) (Aq (Av 10 Dc.nd (Cp (T3 rfl) rfl T.Tz R9 (Ae (Ab 10) (Ae Ah Aj))))) Cy) (Aq (Hj (Mp PySem.F.slot_list_append PySem.F.type_list_append M7 (Ab 7) (Ae (Kr (Ae (Ab 8) (Ae (Al Bg (Al Bg (Ab 8) Ah) (Bk (Hn T) (hr.mono (by decide)) rfl T.Fy T.G8 T.Fg pass0 (Ae (Ab 9) (Ae Ah (Ae (Ab 10) Aj))))) (Ae Fw (Ae (Al Dw (Al El (Bk (Hn T) (hr.mono (by decide)) rfl T.Fy T.G8 T.Fg pass0 (Ae (Ab 9) (Ae Ah (Ae Ah Aj)))) Ah) (Ab 6)) Aj))))) Aj)))))))) (Am (Fv PassesOwn.never rfl (Gx (Bq (Jp (Ab 0) (I8 Ah) (I8 (Al Bg Ah (Ax Aw (Bq (Ek (Ae Ah (Ae Ah (Ae Ah (Ae Ah Aj)))))) (Ab 2))))))) (Bm 9 Dc.nd) (Am (Av 11 Dc.nd (Bk (Hn T) (hr.mono (by decide)) rfl T.Fy T.G8 T.Fg pass0 (Ae (Ab 9) (Ae Ah (Ae (Ab 4) Aj))))) (Am (Av 12 Dc.nd (Bk (ZCT T) (hr.mono (by decide)) rfl T.Qt T.Tw T.Mm pass0 (Ae (Ab 9) (Ae (Ab 2) (Ae (Ab 3) Aj))))) (Am (Cm (Bw (Gr hr.units) (Bk (Hn T) (hr.mono (by decide)) rfl T.Fy T.G8 T.Fg pass0 (Ae (Ab 9) (Ae Ah (Ae Ah Aj)))) Ah (nomark _)) (Aq (Av 12 Dc.nd Fw)) Cy) (Am (Av 13 Dc.nd (Kr (Ae (Ab 11) (Ae (Al Bg (Al Bg (Ab 11) Ah) (Bk (Hn T) (hr.mono (by decide)) rfl T.Fy T.G8 T.Fg pass0 (Ae (Ab 9) (Ae Ah (Ae (Al El (Ab 4) (Ab 11)) Aj))))) (Ae (Ab 12) (Ae (Al Dw (Al El (Bk (Hn T) (hr.mono (by decide)) rfl T.Fy T.G8 T.Fg pass0 (Ae (Ab 9) (Ae Ah (Ae Ah Aj)))) Ah) (Ab 6)) Aj)))))) (Am (Av 14 Dc.nd (Bk (Hn T) (hr.mono (by decide)) rfl T.Fy T.G8 T.Fg pass0 (Ae (Ab 9) (Ae Ah (Ae (Al Bg (Cp Hm rfl T.Hc Ha (Ae (Ab 7) Aj)) Ah) Aj))))) (Aq (Av 7 Dc.nd (Ey (Al Bg (Bq (Al Bg (Bq (Jp (Ab 7) Mz (I8 (Ab 14)))) (Bq (Ek (Ae (Ab 13) Aj))))) (Bq (Jp (Ab 7) (I8 (Ab 14)) Mz)))))))))))) (Am (Wv (Av 15 Dc.nd (Ju rfl (Gs (dn:=(Az Ot).names) (N0:=Z6) (N:= ["_law_k","_law_script","_law_kind","_law_scale"]) (nt:=1) (caps:= [0,2,3])) (Hx rfl T.Gi (Ae (Ab 4) Aj)) (λC s₀ H₀ ex=>(Bm 0 (show (["_law_k","_law_script","_law_kind","_law_scale"]:List Str).Nodup by decide +kernel))) (Gb (by decide)) (λC s₀ H₀ ex=>Ir) (λC s₀ H₀ ex=>(Bk (ZCT T) (hr.mono (by decide)) rfl T.Qt T.Tw T.Mm pass0 (Ae (Bk (Og T) (hr.mono (by decide)) rfl T.Ln T.Kz T.Jt pass0 (Ae (Ab 1) (Ae (Al Bg Ah (Ab 0)) Aj))) (Ae (Ab 2) (Ae (Ab 3) Aj)))))))) (Am (Cm (Jb (Ab 5)) (Aq (Wv (Av 15 Dc.nd (Ju rfl (Gs (dn:=(Az Ot).names) (N0:=Z6) (N:= ["_law_k","_law_cell","_law_supplies"]) (nt:=1) (caps:= [1,15])) (Hx rfl T.Gi (Ae (Ab 4) Aj)) (λC s₀ H₀ ex=>(Bm 0 (show (["_law_k","_law_cell","_law_supplies"]:List Str).Nodup by decide +kernel))) (Gb (by decide)) (λC s₀ H₀ ex=>Ir) (λC s₀ H₀ ex=>(Al Dw (Ax Aw (Ab 2) (Ab 0)) (Lz ZAi rfl T.Yd ZAK (Ae (T4 (Gr hr.units) (Al Eu (Ab 0) Ah) (Al Eu (Al Ji (Ab 1) Ah) Ah) (nomark _)) Aj)))))))) Cy) (Aq (Bv (Kr (Ae (Ab 4) (Ae (Ab 7) (Ae (Ab 15) Aj))))))))))))))))))))
theorem ZFm (T:Txt K mg base t):FnOk P w K mg base CX0 2 t.Qg t.Uc ["_law_cell","_law_k","_law_here"] (lF K Rz):=by
 refine Dh T.Ur ZAv λcdv A outer s H E hr=> ?_
 exact (Am (Av 3 ZAv.nd (Bk (Hn T) (hr.mono (by decide)) rfl T.Fy T.G8 T.Fg pass0 (Ae (Al Bg (Ab 0) (Al Dw (Ab 1) (Ab 1))) (Ae (Al Bg Ah (Al Dw Ah (Al Eu (Ab 0) Ah))) (Ae Ah Aj))))) (Am (Cm (Bw (Gr hr.units) (Ab 3) Ah (nomark _)) (Aq (Bv (Ab 2))) Cy) (Am (Cm (Bw (Gr hr.units) (Ab 3) Ah (nomark _)) (Aq (Bv (Al Ji (Ab 2) Ah))) Cy) (Aq (Bv (Cp (T3 rfl) rfl T.Tz R9 (Ae (Ab 2) (Ae (Al El (Ab 3) Ah) Aj))))))))
theorem ZI8 (T:Txt K mg base t):FnOk P w K mg base CX0 3 t.Nj t.Rf ["_law_many","_law_arcs","_law_supplies","_law_cell"] (lF K Uq):=by
 refine Dh T.Rr Ej λcdv A outer s H E hr=> ?_
 exact (Am (Av 4 Ej.nd (Ey (Al Bg (Bq (Lz (Ui rfl) rfl T.Mq Ly (Ae (Ab 2) Aj))) (Bq (Ek (Ae Ah Aj)))))) (Am (Av 5 Ej.nd Ah) (Am (Fv PassesOwn.never rfl (Hx rfl T.Gi (Ae (Ab 0) Aj)) (Bm 6 Ej.nd) (Am (Av 7 Ej.nd Ah) (Am (Fv PassesOwn.never rfl (Hx rfl T.Gi (Ae (Cp Hm rfl T.Hc Ha (Ae (Ab 1) Aj)) Aj)) (Bm 8 Ej.nd) (Am (Jh (Ax Aw (Ab 1) (Ab 8)) (Qi rfl (Ex (Bm 9 Ej.nd) (Ex (Bm 10 Ej.nd) (Ex (Bm 11 Ej.nd) (Ex (Bm 12 Ej.nd) Qk)))))) (Aq (Cm (Bw (Gr hr.units) (Ab 9) (Ab 6) (nomark _)) (Am (Av 13 Ej.nd (Ax Aw (Ab 4) (Ab 6))) (Am (Cm (Bw Yv (Ab 11) Fw (nomark _)) (Aq (Av 13 Ej.nd (Cp (T3 rfl) rfl T.Tz R9 (Ae (Ab 11) (Ae (Ab 13) Aj))))) (Aq (Av 7 Ej.nd (Ab 8)))) (Am (Av 13 Ej.nd (Bk (ZFm T) (hr.mono (by decide)) rfl T.Yp T.Yq T.U4 pass0 (Ae (Ab 3) (Ae (Ab 8) (Ae (Ab 13) Aj))))) (Am (Jh (Al El (Ax Aw (Ab 4) (Ab 6)) (Ab 13)) (Ma (Ab 4) (Ab 6))) (Am (Jh (Al Bg (Ax Aw (Ab 4) (Ab 10)) (Ab 13)) (Ma (Ab 4) (Ab 10))) (Aq (Av 5 Ej.nd (Al Bg (Ab 5) (Al Dw (Ab 13) (Ab 12)))))))))) Cy)))) (Am (Jh (Al Bg (Ax Aw (Ab 4) (Ax Aw (Ax Aw (Ab 1) (Ab 7)) Ah)) (Ax Aw (Ab 4) (Ab 6))) (Ma (Ab 4) (Ax Aw (Ax Aw (Ab 1) (Ab 7)) Ah))) (Aq (Av 5 Ej.nd (Al Bg (Ab 5) (Al Dw (Ax Aw (Ab 4) (Ab 6)) (Ax Aw (Ax Aw (Ab 1) (Ab 7)) Ah))))))))) (Aq (Bv (Ab 5))))))
theorem ZAq (T:Txt K mg base t):FnOk P w K mg base CX0 1 t.Ow t.Rb ["_law_found"] (lF K Oe):=by
 refine Dh T.Ti ZIm λcdv A outer s H E hr=> ?_
 exact (Aq (Bv (ZAn (Cp Pq rfl T.Q8 Nv (Ae (Ab 0) (Ae (Oh rfl T.Yd ZAK) Aj))) (ZC4 (ZHy (Cp Pq rfl T.Q8 Nv (Ae (Ab 0) (Ae (Oh rfl T.ZH5 ZKB) Aj))))))))
theorem ZFg (T:Txt K mg base t):FnOk P w K mg base CX0 2 t.Q0 t.Vg ["_law_found","_law_many","_law_arcs"] (lF K U3):=by
 refine Dh T.Rk ZFS λcdv A outer s H E hr=> ?_
 exact (Am (Cm (Ks (Lq (Km (Jb (Cp Pq rfl T.Q8 Nv (Ae (Ab 0) (Ae (Oh rfl T.ZHr ZGA) Aj))))) (Lq (Bw (Q4 hr.units) (Cp Hm rfl T.Hc Ha (Ae (Ab 0) Aj)) Ah (nomark _)) (M8 (Km (Jb (Bk (ZAq T) (hr.mono (by decide)) rfl T.Vp T.Ua T.O1 pass0 (Ae (Ax Aw (Ab 0) Ah) Aj)))))))) (Aq (Bv Hh)) Cy) (Am (Cm (Ks (Lq (Km (Jb (Cp Pq rfl T.Q8 Nv (Ae (Ax Aw (Ab 0) Ah) (Ae (Oh rfl T.Mq Ly) Aj))))) (M8 (Bw (Q4 hr.units) (Cp Hm rfl T.Hc Ha (Ae (Ax Aw (Ab 0) Ah) Aj)) (Cp Hm rfl T.Hc Ha (Ae (Ab 2) Aj)) (nomark _))))) (Aq (Bv Hh)) Cy) (Am (Cm (Ks (Lq (Km (Jb (Cp Pq rfl T.Q8 Nv (Ae (Ax Aw (Ab 0) Ah) (Ae (Oh rfl T.Mq Ly) Aj))))) (M8 (Bw (Q4 hr.units) (Cp Hm rfl T.Hc Ha (Ae (Ax Aw (Ab 0) Ah) Aj)) (Ab 1) (nomark _))))) (Aq (Bv Hh)) Cy) (Aq (Bv (Cp (ZIU rfl) rfl T.ZEs ZFr (Ae (Bq (Ju rfl (Gs (dn:=(Az Wa).names) (N0:=ZDw) (N:= ["_law_one"]) (nt:=1) (caps:= [])) (Gx (Al Bg (Ax Aw (Ab 0) Ah) (Ax Aw (Ab 0) Ah))) (λC s₀ H₀ ex=>(Bm 0 (show (["_law_one"]:List Str).Nodup by decide +kernel))) (Gb (by decide)) (λC s₀ H₀ ex=>Ir) (λC s₀ H₀ ex=>(Bk (ZAq T) (hr.mono (by decide)) rfl T.Vp T.Ua T.O1 pass0 (Ae (Ab 0) Aj))))) Aj)))))))
theorem ZBY (T:Txt K mg base t):FnOk P w K mg base CX0 1 t.R3 t.Va ["self","node","end","gain","room"] (lF K Hk):=by
 refine Dh T.V4 ZHK λcdv A outer s H E hr=> ?_
 exact (Am (Hj (Mp PySem.F.slot_list_append PySem.F.type_list_append M7 (Ax Aw (Cj T.Bd T.Be T.Nf (Ab 0)) (Ab 1)) (Ae (Ey (Cp Hm rfl T.Hc Ha (Ae (Cj T.Bd T.Be T.Jm (Ab 0)) Aj))) Aj))) (Am (Hj (Mp PySem.F.slot_list_append PySem.F.type_list_append M7 (Cj T.Bd T.Be T.Jm (Ab 0)) (Ae (Ey (Ab 2)) Aj))) (Am (Hj (Mp PySem.F.slot_list_append PySem.F.type_list_append M7 (Cj T.Bd T.Be T.Mg (Ab 0)) (Ae (Ey (Al El (Al Dw (Ab 3) (Cj T.Bd T.Be T.Nb (Ab 0))) Ah)) Aj))) (Aq (Hj (Mp PySem.F.slot_list_append PySem.F.type_list_append M7 (Cj T.Bd T.Be T.J8 (Ab 0)) (Ae (Ey (Ab 4)) Aj)))))))
theorem ZEW (T:Txt K mg base t):FnOk P w K mg base CX0 2 t.Oq t.Rm ["self","many","arcs","supplies"] (lF K Rt):=by
 refine Dh T.S6 Yt λcdv A outer s H E hr=> ?_
 exact (Am (Av 4 Yt.nd (Al Bg (Cp (V8 rfl) rfl T.Uz R7 (Ae (Ab 3) Aj)) Ah)) (Am (N5 T.Bd T.Be T.Nb (Ab 0) (Al Bg (Ab 1) Ah)) (Am (N5 T.Bd T.Be T.Im (Ab 0) (Ey (Al Bg (Bq (Lz (Ui rfl) rfl T.Mq Ly (Ae (Ab 3) Aj))) (Bq (Ek (Ae Ah Aj)))))) (Am (N5 T.Bd T.Be T.Nf (Ab 0) (Ju rfl (Gs (dn:=(Az Vr).names) (N0:=ZDC) (N:= ["cubes"]) (nt:=1) (caps:= [])) (Gx (Cj T.Bd T.Be T.Im (Ab 0))) (λC s₀ H₀ ex=>(Bm 0 (show (["cubes"]:List Str).Nodup by decide +kernel))) (Gb (by decide)) (λC s₀ H₀ ex=>Ir) (λC s₀ H₀ ex=>(Ey (Ek Aj))))) (Am (N5 T.Bd T.Be T.Jm (Ab 0) (Ey (Ek Aj))) (Am (N5 T.Bd T.Be T.Mg (Ab 0) (Ey (Ek Aj))) (Am (N5 T.Bd T.Be T.J8 (Ab 0) (Ey (Ek Aj))) (Aq (Fv PassesOwn.never rfl (Gx (Ab 2)) (Bm 5 Yt.nd) (Am (Hj (Ld T.Bd T.Be T.ZDs (ZBY T) (hr.mono (by decide)) T.Om pass0 (Ab 0) (Ae (Ax Aw (Ab 5) (Hb (v:=(.int 0)) rfl T.Qe ⟨_,rfl⟩ (λ_ _=>rfl))) (Ae (Ax Aw (Ab 5) (Hb (v:=(.int 1)) rfl T.Ug ⟨_,rfl⟩ (λ_ _=>rfl))) (Ae (Ax Aw (Ab 5) (Hb (v:=(.int 3)) rfl T.Nq ⟨_,rfl⟩ (λ_ _=>rfl))) (Ae (ZDS (Bw Vs (Ax Aw (Ab 5) (Hb (v:=(.int 2)) rfl T.Qd ⟨_,rfl⟩ (λ_ _=>rfl))) Fw (nomark _)) (Ab 4) (Ax Aw (Ab 5) (Hb (v:=(.int 2)) rfl T.Qd ⟨_,rfl⟩ (λ_ _=>rfl)))) Aj)))))) (Aq (Hj (Ld T.Bd T.Be T.ZDs (ZBY T) (hr.mono (by decide)) T.Om pass0 (Ab 0) (Ae (Ax Aw (Ab 5) (Hb (v:=(.int 1)) rfl T.Ug ⟨_,rfl⟩ (λ_ _=>rfl))) (Ae (Ax Aw (Ab 5) (Hb (v:=(.int 0)) rfl T.Qe ⟨_,rfl⟩ (λ_ _=>rfl))) (Ae (Lg Ke (Ax Aw (Ab 5) (Hb (v:=(.int 3)) rfl T.Nq ⟨_,rfl⟩ (λ_ _=>rfl)))) (Ae Ah Aj)))))))))))))))))
theorem ZKu (T:Txt K mg base t):FnOk P w K mg base CX0 1 t.R4 t.Rg ["self","node","ways"] (lF K Nm):=by
 refine Dh T.Tf Mh λcdv A outer s H E hr=> ?_
 exact (Am (Av 3 Mh.nd (Ax Aw (Ab 2) (Ab 1))) (Am (Fv PassesOwn.never rfl (Gx (Ax Aw (Cj T.Bd T.Be T.Nf (Ab 0)) (Ab 1))) (Bm 4 Mh.nd) (Am (Av 5 Mh.nd (Ax Aw (Ab 2) (Ax Aw (Cj T.Bd T.Be T.Jm (Ab 0)) (Ab 4)))) (Aq (Cm (Ks (ZD4 (Bw Mw (Ax Aw (Cj T.Bd T.Be T.J8 (Ab 0)) (Ab 4)) Ah (nomark _)) (ZKl (Bw Yv (Ab 5) Fw (nomark _))))) (Am (Av 6 Mh.nd (Al Bg (Ab 5) (Ax Aw (Cj T.Bd T.Be T.Mg (Ab 0)) (Ab 4)))) (Aq (Cm (Ks (Lq (Bw Vs (Ab 3) Fw (nomark _)) (M8 (Bw V1 (Ab 3) (Ab 6) (nomark _))))) (Aq (Av 3 Mh.nd (Ab 6))) Cy))) Cy)))) (Aq (Bv (Ab 3)))))
theorem ZDW (T:Txt K mg base t):FnOk P w K mg base CX0 2 t.Vc t.Vt ["self"] (lF K Il):=by
 refine Dh T.U7 Lk λcdv A outer s H E hr=> ?_
 exact (Am (ZAU 1 rfl Lk.nd (Gs (dn:=(Az Rv).names) (N0:=ZDU) (N:= ["cubes"]) (nt:=1) (caps:= [])) (Gx (Cj T.Bd T.Be T.Im (Ab 0))) (λC s₀ H₀ ex=>(Bm 0 (show (["cubes"]:List Str).Nodup by decide +kernel))) (Gb (by decide)) (λC s₀ H₀ ex=>Ir) (λC s₀ H₀ ex=>Fw)) (Am (Jh Ah (Ma (Ab 1) (Lg Ke Ah))) (Am (Av 2 Lk.nd Hh) (Am (ZCl fuel PassesOwn.never (Km (Jb (Ab 2))) (Am (Av 2 Lk.nd Hh) (Aq (Fv PassesOwn.never rfl (ZF0 rfl T.Gi (Ae (Al El (Cp Hm rfl T.Hc Ha (Ae (Ab 1) Aj)) Ah) (Ae (Lg Ke Ah) (Ae (Lg Ke Ah) Aj)))) (Bm 3 Lk.nd) (Am (Av 4 Lk.nd (Ld T.Bd T.Be T.ZEF (ZKu T) (hr.mono (by decide)) T.T5 pass0 (Ab 0) (Ae (Ab 3) (Ae (Ab 1) Aj)))) (Aq (Cm (Bw (Q4 hr.units) (Ab 4) (Ax Aw (Ab 1) (Ab 3)) (nomark _)) (Am (Jh (Ab 4) (Ma (Ab 1) (Ab 3))) (Aq (Av 2 Lk.nd Hh))) Cy))))))) (Aq (Bv (Ab 1)))))))
theorem ZIq (T:Txt K mg base t):FnOk P w K mg base CX0 1 t.S9 t.Ul ["self"] (lF K Kd):=by
 refine Dh T.Wf ZEA λcdv A outer s H E hr=> ?_
 exact (Aq (Bv (Ju rfl (Gs (dn:=(Az W0).names) (N0:=ZCK) (N:= ["link","room"]) (nt:=2) (caps:= [])) (ZJw rfl T.ZEb (Ae (Cj T.Bd T.Be T.J8 (Ab 0)) Aj)) (λC s₀ H₀ ex=>(Qi rfl (Ex (Bm 0 (show (["link","room"]:List Str).Nodup by decide +kernel)) (Ex (Bm 1 (show (["link","room"]:List Str).Nodup by decide +kernel)) Qk)))) (ZDR (Vh (Gb (by decide)) (Vh (Gb (by decide)) ZDQ))) (λC s₀ H₀ ex=>(ZBC (Bw (Gr hr.units) (Al Eu (Ab 0) Ah) Ah (nomark _)))) (λC s₀ H₀ ex=>(Ab 1)))))
theorem ZH2 (T:Txt K mg base t):FnOk P w K mg base CX0 1 t.T6 t.W6 ["self","way"] (lF K K9):=by
 refine Dh T.Tt ZE8 λcdv A outer s H E hr=> ?_
 exact (Aq (Bv (Lg Ke (Al Ji (Lg Ke (Ab 1)) (Cj T.Bd T.Be T.Nb (Ab 0))))))
theorem ZIf (T:Txt K mg base t):FnOk P w K mg base CX0 1 t.Ry t.Vd ["self","way"] (lF K Ni):=by
 refine Dh T.S8 ZKM λcdv A outer s H E hr=> ?_
 exact (Aq (Bv (Al Eu (Lg Ke (Ab 1)) (Cj T.Bd T.Be T.Nb (Ab 0)))))
theorem ZHS (T:Txt K mg base t):FnOk P w K mg base CX0 1 t.Vz t.Ri ["self","node","link","cubes"] (lF K Np):=by
 refine Dh T.Su ZBd λcdv A outer s H E hr=> ?_
 exact (Am (Av 4 ZBd.nd (ZDS (Bw (Gr hr.units) (Al Eu (Ab 2) Ah) Ah (nomark _)) (Al Bg (Ab 2) Ah) (Al El (Ab 2) Ah))) (Am (Sh (Cj T.Bd T.Be T.Im (Ab 0)) (Ab 1) (Ab 3) ZCZ) (Am (Sh (Cj T.Bd T.Be T.Im (Ab 0)) (Ax Aw (Cj T.Bd T.Be T.Jm (Ab 0)) (Ab 2)) (Ab 3) ZDv) (Am (Sh (Cj T.Bd T.Be T.J8 (Ab 0)) (Ab 2) (Ab 3) ZCZ) (Aq (Sh (Cj T.Bd T.Be T.J8 (Ab 0)) (Ab 4) (Ab 3) ZDv))))))
theorem ZJs (T:Txt K mg base t):FnOk P w K mg base CX0 5 t.Wr t.ZAC ["self","ways"] (lF K Ol):=by
 refine ZJT T.Pj Wb λcdv A outer s H E hcd hr=> ?_
 exact (Am (Av 2 Wb.nd (Bq (ZI5 (k:=1) (C:="Sending") (m:="send_by") (x:="node") rfl rfl T.ZI7 rfl T.Gi (Ae (Al El (Cp Hm rfl T.Hc Ha (Ae (Ab 1) Aj)) Ah) Aj) (Gs (dn:=(Az Ou).names) (N0:=ZAl) (N:= ["node","self","ways"]) (nt:=1) (caps:= [0,1])) rfl rfl rfl rfl (λ_ _ _ _ _=>rfl) rfl rfl T.bm (λc P t=>hcd.symm.trans (ZLS T.Bd T.ZCY.at_ T.Pj t)) (hr.mono (by decide)) (λf c A s H hr=>(Ld T.Bd T.Be T.ZHj (ZIf T) (hr.mono (by decide)) T.W5 pass0 (Ab 1) (Ae (Ax Aw (Ab 2) (Ab 0)) Aj)))))) (Aq (Fv PassesOwn.never rfl (Gx (Ab 2)) (Bm 3 Wb.nd) (Aq (Fv PassesOwn.never rfl (Gx (Ax Aw (Cj T.Bd T.Be T.Nf (Ab 0)) (Ab 3))) (Bm 4 Wb.nd) (Aq (Cm (Bw (Gr hr.units) (Ax Aw (Ab 1) (Ab 3)) (Al Bg (Ax Aw (Ab 1) (Ax Aw (Cj T.Bd T.Be T.Jm (Ab 0)) (Ab 4))) (Ax Aw (Cj T.Bd T.Be T.Mg (Ab 0)) (Ab 4))) (nomark _)) (Aq (Hj (Ld T.Bd T.Be T.ZFI (ZHS T) (hr.mono (by decide)) T.Wh pass0 (Ab 0) (Ae (Ab 3) (Ae (Ab 4) (Ae (Cp (T3 rfl) rfl T.Tz R9 (Ae (Ax Aw (Cj T.Bd T.Be T.Im (Ab 0)) (Ab 3)) (Ae (Ax Aw (Cj T.Bd T.Be T.J8 (Ab 0)) (Ab 4)) Aj))) Aj)))))) Cy)))))))
theorem ZKW (T:Txt K mg base t):FnOk P w K mg base CX0 1 t.Nh t.Vl ["many","arcs"] (lF K Sg):=by
 refine Dh T.W9 Yl λcdv A outer s H E hr=> ?_
 exact (Am (Wv (ZAU 2 rfl Yl.nd (Gs (dn:=(Az Ro).names) (N0:=ZCn) (N:= ["arc"]) (nt:=1) (caps:= [])) (Gx (Ab 1)) (λC s₀ H₀ ex=>(Bm 0 (show (["arc"]:List Str).Nodup by decide +kernel))) (Gb (by decide)) (λC s₀ H₀ ex=>(ZBC (Bw Vs (Ax Aw (Ab 0) (Hb (v:=(.int 2)) rfl T.Qd ⟨_,rfl⟩ (λ_ _=>rfl))) Fw (nomark _)))) (λC s₀ H₀ ex=>(Ax Aw (Ab 0) (Hb (v:=(.int 0)) rfl T.Qe ⟨_,rfl⟩ (λ_ _=>rfl)))))) (Aq (Fv PassesOwn.never rfl (Hx rfl T.Gi (Ae (Ab 0) Aj)) (Bm 3 Yl.nd) (Aq (Cm (Bw ZK5 (Ab 3) (Ab 2) (by with_unfolding_all rfl)) (Aq ZFh) Cy)))))
theorem ZKg (T:Txt K mg base t):FnOk P w K mg base CX0 6 t.Qf t.Ud ["many","arcs","supplies"] (lF K Ny):=by
 refine Dh T.Wc Lx λcdv A outer s H E hr=> ?_
 exact (Am (Hj (Bk (ZKW T) (hr.mono (by decide)) rfl T.Xg T.Xb T.T7 pass0 (Ae (Ab 0) (Ae (Ab 1) Aj)))) (Am (Av 3 Lx.nd (ZGZ T.Bd T.Xr (ZEW T) (hr.mono (by decide)) rfl T.ZIn T.Uj pass0 (Ae (Ab 0) (Ae (Ab 1) (Ae (Ab 2) Aj))))) (Am (Av 4 Lx.nd (Bq (Yc T.Bd T.Be T.ZAy (ZDW T) (hr.mono (by decide)) T.Pr pass0 (Ab 3)))) (Am (ZCl fuel PassesOwn.never (Bw Mw (Cp (V8 rfl) rfl T.Uz R7 (Ae (Bq (Jp (Cj T.Bd T.Be T.Im (Ab 3)) Mz (I8 (Ab 0)))) Aj)) Ah (nomark _)) (Am (Hj (Ld T.Bd T.Be T.ZCY (ZJs T) (hr.mono (by decide)) T.W4 pass0 (Ab 3) (Ae (Ab 4) Aj))) (Aq (Av 4 Lx.nd (Bq (Yc T.Bd T.Be T.ZAy (ZDW T) (hr.mono (by decide)) T.Pr pass0 (Ab 3))))))) (Am (Av 5 Lx.nd (Bq (Yc T.Bd T.Be T.ZIv (ZIq T) (hr.mono (by decide)) T.Wg pass0 (Ab 3)))) (Am (Av 6 Lx.nd (Cp (V8 rfl) rfl T.Uz R7 (Ae (Bq (Ju rfl (Gs (dn:=(Az Pg).names) (N0:=Ze) (N:= ["cubes","arc"]) (nt:=2) (caps:= [])) (ZK0 rfl T.ZFT (Ae (Ab 5) (Ae (Ab 1) Aj))) (λC s₀ H₀ ex=>(Qi rfl (Ex (Bm 0 (show (["cubes","arc"]:List Str).Nodup by decide +kernel)) (Ex (Bm 1 (show (["cubes","arc"]:List Str).Nodup by decide +kernel)) Qk)))) (ZDR (Vh (Gb (by decide)) (Vh (Gb (by decide)) ZDQ))) (λC s₀ H₀ ex=>Ir) (λC s₀ H₀ ex=>(Al Dw (Ab 0) (Ax Aw (Ab 1) (Hb (v:=(.int 3)) rfl T.Nq ⟨_,rfl⟩ (λ_ _=>rfl))))))) Aj))) (Aq (Bv (Kr (Ae (Ab 6) (Ae (Ab 5) (Ae (Bq (Ju rfl (Gs (dn:=(Az Pg).names) (N0:=Ze) (N:= ["way","sending"]) (nt:=1) (caps:= [3])) (Gx (Bq (Jp (Ab 4) Mz (I8 (Ab 0))))) (λC s₀ H₀ ex=>(Bm 0 (show (["way","sending"]:List Str).Nodup by decide +kernel))) (Gb (by decide)) (λC s₀ H₀ ex=>Ir) (λC s₀ H₀ ex=>(Ld T.Bd T.Be T.ZEM (ZH2 T) (hr.mono (by decide)) T.V5 pass0 (Ab 1) (Ae (Ab 0) Aj))))) Aj))))))))))))
theorem ZGa (T:Txt K mg base t):FnOk P w K mg base CX0 7 t.M6 t.Qj ["_law_script"] (lF K Jy):=by
 refine Dh T.Qm Je λcdv A outer s H E hr=> ?_
 exact (Am (Jh (Bq (Bk (ZHL T) (hr.mono (by decide)) rfl T.Yo T.Ye T.O7 pass0 (Ae (Ab 0) Aj))) (Qi rfl (Ex (Bm 1 Je.nd) (Ex (Bm 2 Je.nd) (Ex (Bm 3 Je.nd) Qk))))) (Am (Av 4 Je.nd (Bq (Bk (ZKg T) (hr.mono (by decide)) rfl T.ZAO T.Zh T.Ue pass0 (Ae (Ab 1) (Ae (Bq (Lz (Ui rfl) rfl T.Mq Ly (Ae (Ab 2) Aj))) (Ae (Bq (Lz (Ui rfl) rfl T.Mq Ly (Ae (Ab 3) Aj))) Aj)))))) (Am (Cm (Km (Jb (Bk (ZFg T) (hr.mono (by decide)) rfl T.Yz T.Wo T.Tg pass0 (Ae (Ab 4) (Ae (Ab 1) (Ae (Ab 2) Aj)))))) (Aq (Bv Hh)) Cy) (Am (Av 5 Je.nd (Bk (ZJA T) (hr.mono (by decide)) rfl T.ZAb T.ZAZ T.Vi pass0 (Ae (Ab 1) (Ae (Ab 2) (Ae (Ab 3) (Ae (Ax Aw (Ab 4) Ah) Aj)))))) (Am (Cm (Ks (Lq (Bw Vs (Ab 5) Fw (nomark _)) (M8 (Bw (Q4 hr.units) (Ab 5) (Ax Aw (Ab 4) Ah) (nomark _))))) (Aq (Bv Hh)) Cy) (Am (Fv PassesOwn.never rfl (Gx (Bq (Jp (Ab 0) (I8 Ah) (I8 (Al El Ah (Al Dw Ah (Lz ZAi rfl T.Yd ZAK (Ae (T4 Mw (Ab 1) Ah (nomark _)) Aj)))))))) (Bm 6 Je.nd) (Am (Av 7 Je.nd (Bq (Bk (ZI8 T) (hr.mono (by decide)) rfl T.Xi T.Yn T.U8 pass0 (Ae (Ab 1) (Ae (Ab 2) (Ae (Ab 3) (Ae (Ab 6) Aj))))))) (Aq (Cm (Ks (Lq (Bw Mw (Ab 7) (Ax Aw (Ab 4) Ah) (nomark _)) (M8 (Bw Mw (Ab 7) (Ab 5) (nomark _))))) (Aq (Bv Hh)) Cy)))) (Aq (Bv Hh))))))))
end
noncomputable def asks:List Ask:= [.cl "Sending",.fn "_law_bound" Uo,.fn "_law_mix" Zn,.fn "_law_amount" Xa,.fn "_law_cell_at" Zw,.fn "_law_take" ZAc,.fn "_law_read_net" Vq,.fn "_law_net" Ot,.fn "_law_part" Yw,.fn "_law_other" Zk,.fn "_law_whole" Zr,.fn "_law_shaped" Wa,.mt "Sending" "add_link" "Sending.add_link" Zg,.mt "Sending" "__init__" "Sending.__init__" Vr,.mt "Sending" "best_way" "Sending.best_way" Yx,.mt "Sending" "best_ways" "Sending.best_ways" Rv,.mt "Sending" "flow_sent" "Sending.flow_sent" W0,.mt "Sending" "gain_of" "Sending.gain_of" Ym,.mt "Sending" "links_of" "Sending.links_of" ZAQ,.mt "Sending" "send_along" "Sending.send_along" Xq,.mt "Sending" "send_by" "Sending.send_by" Ou,.fn "check_ways" Ro,.fn "best" Pg,.fn "law" V2,.no "Sending" "ends",.no "Sending" "left",.no "Sending" "links_from",.no "Sending" "rooms",.no "Sending" "scale",.no "Sending" "worths",.z "all",.z "bool",.z "enumerate",.z "int",.z "isinstance",.z "len",.z "list",.z "max",.z "min",.z "range",.z "sorted",.z "sum",.z "tuple",.z "zip",.gi "FROM" 0,.gi "GAIN" 3,.gi "MOST" 2,.gi "TO" 1]
theorem all_mk {l:PySem.W.OpenLaw} {w:World} {K:PySem.W.Frag} {h:Heap} {mg:Str->Option Value} {fa ZAe T0:Addr} (X:K.In h) (G:h.Ns mainGlobals mg) (hfa:mg "law"=some (.ref fa)) (tb1:(Eb K (Gd K (Bs K "Sending") "send_by")).code=.ref ZAe) (ZDx:PySem.W.codeHdIn K ZAe T0=true) (ZLb:PySem.W.noTabs K=true) (S:AllSaid K asks):
  ∃(fd:FuncData) (c:Addr),(∀(s:Shared) (v:Value),BindsTo s fd ⟨[v],[]⟩ [("_law_script",v)])/\PySem.W.codeHdIn K c T0=true/\PySem.W.noTabs K=true/\TabAt K "Sending" "send_by" c T0/\∀base:Heap,K.In base->base.Ns mainGlobals mg->BMd base mg->FnOk l.prog w K mg base CX0 7 fa fd ["_law_script"] (lF K Jy):=by
 obtain ⟨⟨ZAf,ZLc,ZLd,ZLe,ZLf,Xr,ZLg⟩,ZLh,ZLi,ZLj,ZLk,ZLl,ZLm,ZLn,ZLo,ZLp,ZLq,ZLr,ZLs,ZLt,ZLu,ZLv,ZLw,ZLx,ZLy,ZLz,⟨ZDy,ZL0,ZAg,ZDz,ZD0⟩,ZL1,ZL2,ZL3,Jm,Im,Nf,J8,Nb,Mg,ZL4,ZL5,ZL6,ZL7,ZL8,ZL9,ZMA,ZMB,ZMC,ZMD,ZME,ZMF,ZMG,ZMH,Qe,Nq,Qd,Ug,_⟩:=S;obtain ⟨Nk,Qx,Tu,ZAb,ZAZ⟩:=Fl X G ZLh;obtain ⟨Pn,W8,Sv,Fy,G8⟩:=Fl X G ZLi;obtain ⟨O8,Sy,Te,Qt,Tw⟩:=Fl X G ZLj;obtain ⟨Pu,Sd,Vm,Ln,Kz⟩:=Fl X G ZLk;obtain ⟨Ql,Qz,Vy,G9,Gf⟩:=Fl X G ZLl
 obtain ⟨Nt,Rc,Tr,ZAD,Xe⟩:=Fl X G ZLm;obtain ⟨Oa,Tj,Uh,Yo,Ye⟩:=Fl X G ZLn;obtain ⟨Qg,Uc,Ur,Yp,Yq⟩:=Fl X G ZLo;obtain ⟨Nj,Rf,Rr,Xi,Yn⟩:=Fl X G ZLp;obtain ⟨Ow,Rb,Ti,Vp,Ua⟩:=Fl X G ZLq;obtain ⟨Q0,Vg,Rk,Yz,Wo⟩:=Fl X G ZLr;obtain ⟨R3,Va,V4,ZMI,ZMJ,ZMK⟩:=K4 ZLs;obtain ⟨Oq,Rm,S6,ZD1,ZD2,ZML⟩:=K4 ZLt;obtain ⟨R4,Rg,Tf,ZMM,ZMN,ZMO⟩:=K4 ZLu;obtain ⟨Vc,Vt,U7,ZMP,ZMQ,ZMR⟩:=K4 ZLv;obtain ⟨S9,Ul,Wf,ZMS,ZMT,ZMU⟩:=K4 ZLw
 obtain ⟨T6,W6,Tt,ZMV,ZMW,ZMX⟩:=K4 ZLx;obtain ⟨Ry,Vd,S8,ZMY,ZMZ,ZMa⟩:=K4 ZLy;obtain ⟨Vz,Ri,Su,ZMb,ZMc,ZMd⟩:=K4 ZLz;rw [tb1] at ZAg ZDz;have Pj:=Z8 (st:=Ou) ZAg ZDz ZD0;obtain ⟨Nh,Vl,W9,Xg,Xb⟩:=Fl X G ZL1;obtain ⟨Qf,Ud,Wc,ZAO,Zh⟩:=Fl X G ZL2;obtain ⟨M6,Qj,Qm,U9,ZBX⟩:=Fl X G ZL3;obtain rfl:fa=M6:=by rw [hfa] at U9;cases U9;rfl
 have T:∀base,BMd base mg->Txt K mg base ⟨_,_,_,_,_,_,_,_,_,_,_,_,_,_,_,_,_,_,_,_,_,_,_,_,_,_,_,_,_,_,_,_,_,_,_,_,_,_,_,_,_,_,_,_,_,_,_,_,_,_,_⟩:=λbase hbm=>⟨Tu,Tu.binds (ps:= ["_law_many","_law_arcs","_law_supplies","_law_told"]) (λ_ _ _ _ _ _ us hl=>match us,hl with | [_,_,_,_],_=>rfl),ZAb,ZAZ,
  Sv,Sv.binds (ps:= ["_law_cell","_law_prime","_law_many"]) (λ_ _ _ _ _ _ us hl=>match us,hl with | [_,_,_],_=>rfl),Fy,G8,
  Te,Te.binds (ps:= ["_law_cell","_law_kind","_law_scale"]) (λ_ _ _ _ _ _ us hl=>match us,hl with | [_,_,_],_=>rfl),Qt,Tw,
  Vm,Vm.binds (ps:= ["_law_script","_law_k"]) (λ_ _ _ _ _ _ us hl=>match us,hl with | [_,_],_=>rfl),Ln,Kz,
  Vy,Vy.binds (ps:= ["_law_pool","_law_many"]) (λ_ _ _ _ _ _ us hl=>match us,hl with | [_,_],_=>rfl),G9,Gf,
  Tr,Tr.binds (ps:= ["_law_pool"]) (λ_ _ _ _ _ _ us hl=>match us,hl with | [_],_=>rfl),ZAD,Xe,
  Uh,Uh.binds (ps:= ["_law_script"]) (λ_ _ _ _ _ _ us hl=>match us,hl with | [_],_=>rfl),Yo,Ye,
  Ur,Ur.binds (ps:= ["_law_cell","_law_k","_law_here"]) (λ_ _ _ _ _ _ us hl=>match us,hl with | [_,_,_],_=>rfl),Yp,Yq,
  Rr,Rr.binds (ps:= ["_law_many","_law_arcs","_law_supplies","_law_cell"]) (λ_ _ _ _ _ _ us hl=>match us,hl with | [_,_,_,_],_=>rfl),Xi,Yn,
  Ti,Ti.binds (ps:= ["_law_found"]) (λ_ _ _ _ _ _ us hl=>match us,hl with | [_],_=>rfl),Vp,Ua,
  Rk,Rk.binds (ps:= ["_law_found","_law_many","_law_arcs"]) (λ_ _ _ _ _ _ us hl=>match us,hl with | [_,_,_],_=>rfl),Yz,Wo,
  V4,V4.binds (ps:= ["self","node","end","gain","room"]) (λ_ _ _ _ _ _ us hl=>match us,hl with | [_,_,_,_,_],_=>rfl),⟨ZMI,ZMJ,ZMK⟩,
  S6,S6.binds (ps:= ["self","many","arcs","supplies"]) (λ_ _ _ _ _ _ us hl=>match us,hl with | [_,_,_,_],_=>rfl),⟨ZD1,ZD2,ZML⟩,
  Tf,Tf.binds (ps:= ["self","node","ways"]) (λ_ _ _ _ _ _ us hl=>match us,hl with | [_,_,_],_=>rfl),⟨ZMM,ZMN,ZMO⟩,
  U7,U7.binds (ps:= ["self"]) (λ_ _ _ _ _ _ us hl=>match us,hl with | [_],_=>rfl),⟨ZMP,ZMQ,ZMR⟩,
  Wf,Wf.binds (ps:= ["self"]) (λ_ _ _ _ _ _ us hl=>match us,hl with | [_],_=>rfl),⟨ZMS,ZMT,ZMU⟩,
  Tt,Tt.binds (ps:= ["self","way"]) (λ_ _ _ _ _ _ us hl=>match us,hl with | [_,_],_=>rfl),⟨ZMV,ZMW,ZMX⟩,
  S8,S8.binds (ps:= ["self","way"]) (λ_ _ _ _ _ _ us hl=>match us,hl with | [_,_],_=>rfl),⟨ZMY,ZMZ,ZMa⟩,
  Su,Su.binds (ps:= ["self","node","link","cubes"]) (λ_ _ _ _ _ _ us hl=>match us,hl with | [_,_,_,_],_=>rfl),⟨ZMb,ZMc,ZMd⟩,
  Pj,Pj.binds (ps:= ["self","ways"]) (λ_ _ _ _ _ _ us hl=>match us,hl with | [_,_],_=>rfl),⟨ZDy,ZL0,ZD0⟩,
  W9,W9.binds (ps:= ["many","arcs"]) (λ_ _ _ _ _ _ us hl=>match us,hl with | [_,_],_=>rfl),Xg,Xb,
  Wc,Wc.binds (ps:= ["many","arcs","supplies"]) (λ_ _ _ _ _ _ us hl=>match us,hl with | [_,_,_],_=>rfl),ZAO,Zh,
  Qm,Qm.binds (ps:= ["_law_script"]) (λ_ _ _ _ _ _ us hl=>match us,hl with | [_],_=>rfl),U9,ZBX,
  ZAf,⟨ZLc,ZLd,ZLe,ZLf⟩,PySem.W.mg_of X G ZAf,⟨Xr,ZD1,ZD2,ZLg⟩,Jm,Im,Nf,J8,Nb,Mg,
  PySem.W.mg_none_of X G ZL4,
  PySem.W.mg_none_of X G ZL5,
  PySem.W.mg_none_of X G ZL6,
  PySem.W.mg_none_of X G ZL7,
  PySem.W.mg_none_of X G ZL8,
  PySem.W.mg_none_of X G ZL9,
  PySem.W.mg_none_of X G ZMA,
  PySem.W.mg_none_of X G ZMB,
  PySem.W.mg_none_of X G ZMC,
  PySem.W.mg_none_of X G ZMD,
  PySem.W.mg_none_of X G ZME,
  PySem.W.mg_none_of X G ZMF,
  PySem.W.mg_none_of X G ZMG,
  PySem.W.mg_none_of X G ZMH,
  PySem.W.mg_of X G Qe,
  PySem.W.mg_of X G Nq,
  PySem.W.mg_of X G Qd,
  PySem.W.mg_of X G Ug,hbm⟩
 exact ⟨Qj,ZAe,λs v=>ZJI Qm λ_ _ _ _ _ _ _=>rfl,ZDx,ZLb,⟨_,_,_,_,_,_,ZAf,ZDy,ZAg,rfl,ZDx⟩,λbase _ _ hbm=>ZGa (T base hbm)⟩
theorem walk {l:PySem.W.OpenLaw} {q:Program} {loose:List Str} {XP:(Str->Option Value)->Heap->Prop} {YP:World->Heap->Prop} {d:DefRec} {K:World->PySem.W.Frag} {T0:World->Addr} (hn:l.most=some 63) (hdf:d.params.defaults= []) (HH:Holds)
  (hY:∀(w:World) (h:Heap),YP w h->(K w).In h/\h.get? (T0 w)=some (PySem.W.tabObj #[]))
  (F:∀(w:World) (mg:Str->Option Value) (fa:Addr) (h:Heap),(K w).In h->h.Ns mainGlobals mg->mg d.name=some (.ref fa)->
   ∃(fd:FuncData) (c:Addr),(∀(s:Shared) (u:Value),BindsTo s fd ⟨[u],[]⟩ [("_law_script",u)])/\PySem.W.codeHdIn (K w) c (T0 w)=true/\PySem.W.noTabs (K w)=true/\TabAt (K w) "Sending" "send_by" c (T0 w)/\∀base:Heap,(K w).In base->base.Ns mainGlobals mg->BMd base mg->FnOk l.prog w (K w) mg base CX0 7 fa fd ["_law_script"] (lF (K w) Jy)):
  PySem.W.WalkO q loose XP YP l.row.toRowW d [] (λf vs=>PySem.call f vs):=
 ZFZ (n:=63) (k:=7) (x:="_law_script") (sp:=λw=>lF (K w) Jy) hn (by decide) hdf ⟨rfl,by decide,by decide⟩ hY λw mg fa h k1 k2 k3=>by
  obtain ⟨fd,c,hb,hC,hK,tA,hF⟩:=F w mg fa h k1 k2 k3;refine ⟨fd,c,hb,hC,hK,λH a ns hl hO hT hS=> ?_,hF⟩;obtain ⟨G,hG⟩:=HH ns hl;refine ⟨⟨K w,1,λ_=>T0 w,H⟩,[.tab "Sending" "send_by"],[.fl (ns.map D.int)],rfl,rfl,⟨rfl,λi j h1 h2 _=> ?_,λi o h=> ?_,λi h=> ?_⟩,Reps.cons ⟨a,ns.map V.int,rfl,?_,Reps.ints ns⟩ Reps.nil,?_⟩
  ·have h1':i < 1:=h1;have h2':j < 1:=h2;lia
  ·cases i with
   | zero=>
    have h':o=.tab "Sending" "send_by":=by simpa using h.symm
    subst h';exact ⟨c,T0 w,tA,#[],hT,trivial,λpos cv z=>by cases z⟩
   | succ i=>simp at h
  ·show H (T0 w)≠none;rw [hT];intro z;cases z
  ·rcases hS with (hS | hS) | hS
   ·rcases hO a with z | ⟨o,xs,z⟩ | ⟨_,z⟩
    ·rw [z] at hS;cases hS
    ·rw [z] at hS;cases hS
    ·rw [z] at hS;cases hS
   ·exact .inl hS
   ·exact .inr hS
  ·rw [hG];exact λb v _ _ r=>r
end Law
set_option maxRecDepth 100000
namespace Law
open PySem PySem.W L2 DL
abbrev pw:Program:=PySem.Challenge.pw_sluiceway_k65_whole_no_flow_earns_more
abbrev rw_:OpenLaw:=PySem.Challenge.rw_sluiceway_k65_whole_no_flow_earns_more
def vw:Program:=view pw (List.range 24)
theorem Qc:∀w,(openEnds treeTable pw w 100000).map (λs=>(openSeen vw [] (importedModules pw.main.body) (XtOf rw_ vw) true s,seeT "Sending" "send_by" asks s.heap))=some (openGood vw [],valT asks):=λw=>by kernel_rfl
end Law
open PySem PySem.W PyProof.Rows DL
theorem PySem.Challenge.cw_sluiceway_k65_whole_no_flow_earns_more_holds : PySem.Challenge.rw_sluiceway_k65_whole_no_flow_earns_more.Holds := by
 refine holds_top (l:=Law.rw_) (d:=dOf Law.V2) (by kernel_rfl) Law.Qc (by kernel_rfl) (by kernel_rfl) (by kernel_rfl) (by kernel_rfl) (by kernel_rfl) ⟨rfl,rfl,rfl,rfl,rfl,by decide +kernel⟩ ?hw ?hc
 case hw=>w_witness2
 case hc=>
  exact Law.walk (l:=Law.rw_) (K:=λw=>By (Hd Law.pw 100000 w)) (T0:=λw=>Nz (By (Hd Law.pw 100000 w)) (J6 (By (Hd Law.pw 100000 w)) "Sending" "send_by")) rfl (by kernel_rfl) Law.holds (λw h Y=>⟨Y.in,Y _ _ (Z3 (Prod.mk.inj (Qy Law.Qc w)).1).2.2⟩) λw mg fa h KX G hmg=>Law.all_mk KX G (show mg "law"=_ from hmg) (Z3 (Prod.mk.inj (Qy Law.Qc w)).1).1 (Z3 (Prod.mk.inj (Qy Law.Qc w)).1).2.1 (ZFC _) (ZBf (Prod.mk.inj (Qy Law.Qc w)).2)
